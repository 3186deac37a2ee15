"""Conditions as texts (point 12), and what is read of texts (point 13)."""

import itertools
import re
import unittest

from jumpsay.errors import BadCondition, BadText
from jumpsay.texts import read, written
from tests.samples import (
    A, B, C, D, E, F, FEW_PAIRS, G, GOOD_CONDITIONS, H, MORE_PAIRS, bad_conditions, balanced, chain, nots, refusal,
    small_conditions, within,
)


class Side:
    """A condition that Python's own signs join, which bind as points 12 and 13 say."""

    def __init__(self, condition):
        self.condition = condition

    def __invert__(self):
        return Side(("not", self.condition))

    def __and__(self, other):
        return Side(("and", self.condition, other.condition))

    def __or__(self, other):
        return Side(("or", self.condition, other.condition))


SIDES = {letter: Side(("look", thing)) for thing, letter in enumerate("abcdefgh")}


def read_by_python(text):
    """The condition of a text, as Python reads it."""
    return eval(text.replace("!", "~"), SIDES.copy()).condition


def writes_one(text):
    """Whether a text writes a condition, however large it is."""
    text = re.sub("[a-h]", "x", text.replace("x", "?"))
    while True:
        shorter = re.sub(r"!x|\(x\)|x[&|]x", "x", text)
        if shorter == text:
            return text == "x"
        text = shorter


def may_go_on(text):
    """Whether a text of a condition may begin like this."""
    return any(writes_one(text + side + ")" * many) for side in ("", "a") for many in range(text.count("(") + 1))


def place_of(text):
    """The place that must be told of a text that writes no condition."""
    for place in range(len(text)):
        if not may_go_on(text[:place + 1]):
            return place
    return len(text)


def without_a_pair(text):
    """The texts that are left of this one without one bracket that opens and the one that closes it."""
    opened = []
    told = []
    for place, sign in enumerate(text):
        if sign == "(":
            opened.append(place)
        elif sign == ")":
            start = opened.pop()
            told.append(text[:start] + text[start + 1:place] + text[place + 1:])
    return told


class Written(unittest.TestCase):
    """Point 12."""

    def test_looks(self):
        self.assertEqual([written(("look", thing)) for thing in range(8)], list("abcdefgh"))

    def test_one_word(self):
        self.assertEqual(written(("not", H)), "!h")
        self.assertEqual(written(("and", A, B)), "a&b")
        self.assertEqual(written(("or", A, B)), "a|b")
        self.assertEqual(written(nots(C, 10)), "!" * 10 + "c")

    def test_within_not(self):
        self.assertEqual(written(("not", ("not", A))), "!!a")
        self.assertEqual(written(("not", ("and", A, B))), "!(a&b)")
        self.assertEqual(written(("not", ("or", A, B))), "!(a|b)")
        self.assertEqual(written(("not", ("not", ("or", A, B)))), "!!(a|b)")
        self.assertEqual(written(("and", ("not", A), ("not", B))), "!a&!b")
        self.assertEqual(written(("or", ("not", A), ("not", ("or", B, C)))), "!a|!(b|c)")

    def test_of_an_or_within_an_and(self):
        self.assertEqual(written(("and", ("or", A, B), C)), "(a|b)&c")
        self.assertEqual(written(("and", A, ("or", B, C))), "a&(b|c)")
        self.assertEqual(written(("and", ("or", A, B), ("or", C, D))), "(a|b)&(c|d)")

    def test_of_an_and_within_an_or(self):
        self.assertEqual(written(("or", ("and", A, B), C)), "a&b|c")
        self.assertEqual(written(("or", A, ("and", B, C))), "a|b&c")
        self.assertEqual(written(("or", ("and", A, B), ("and", C, D))), "a&b|c&d")

    def test_of_like_kind(self):
        self.assertEqual(written(("and", ("and", A, B), C)), "a&b&c")
        self.assertEqual(written(("and", A, ("and", B, C))), "a&(b&c)")
        self.assertEqual(written(("or", ("or", A, B), C)), "a|b|c")
        self.assertEqual(written(("or", A, ("or", B, C))), "a|(b|c)")
        self.assertEqual(written(("and", ("and", A, B), ("and", C, D))), "a&b&(c&d)")
        self.assertEqual(written(("or", ("or", A, B), ("or", C, D))), "a|b|(c|d)")
        self.assertEqual(written(chain("or", 11)), "a|b|c|d|e|f|g|h|a|b|c")

    def test_nested(self):
        condition = ("and", ("not", ("or", ("and", A, B), ("not", ("or", C, D)))), ("or", E, ("and", F, G)))
        self.assertEqual(written(condition), "!(a&b|!(c|d))&(e|f&g)")
        condition = ("or", ("or", A, ("and", B, ("or", C, ("or", D, E)))), ("and", ("not", F), ("and", G, H)))
        self.assertEqual(written(condition), "a|b&(c|(d|e))|!f&(g&h)")

    def test_read_again_and_with_the_fewest_brackets(self):
        for condition in small_conditions() + GOOD_CONDITIONS + FEW_PAIRS + MORE_PAIRS:
            text = written(condition)
            self.assertIs(type(text), str)
            self.assertTrue(set(text) <= set("abcdefgh!&|()"))
            if not read(text) == read_by_python(text) == condition:
                self.fail(f"{text} is not read to {condition}")
            for shorter in without_a_pair(text):
                if read_by_python(shorter) == condition:
                    self.fail(f"{text} of {condition} needs no more than {shorter}")

    def test_bad_conditions(self):
        for place, condition in enumerate(bad_conditions()):
            # By place: the deepest ones cannot be shown.
            with self.subTest(place=place):
                self.assertEqual(refusal(written, condition), (BadCondition, None))


class Read(unittest.TestCase):
    """Points 12 and 13, of texts that write a condition."""

    def test_looks(self):
        self.assertEqual([read(letter) for letter in "abcdefgh"], [("look", thing) for thing in range(8)])

    def test_not_binds_what_stands_next_to_it(self):
        self.assertEqual(read("!a"), ("not", A))
        self.assertEqual(read("!!!h"), nots(H, 3))
        self.assertEqual(read("!a&b"), ("and", ("not", A), B))
        self.assertEqual(read("!a|b"), ("or", ("not", A), B))
        self.assertEqual(read("a&!b|!c"), ("or", ("and", A, ("not", B)), ("not", C)))
        self.assertEqual(read("!(a|b)&c"), ("and", ("not", ("or", A, B)), C))
        self.assertEqual(read("!!(a&b)"), nots(("and", A, B), 2))

    def test_and_binds_before_or(self):
        self.assertEqual(read("a|b&c"), ("or", A, ("and", B, C)))
        self.assertEqual(read("a&b|c"), ("or", ("and", A, B), C))
        self.assertEqual(read("a|b&c|d"), ("or", ("or", A, ("and", B, C)), D))
        self.assertEqual(read("a&b|c&d"), ("or", ("and", A, B), ("and", C, D)))
        self.assertEqual(read("(a|b)&c"), ("and", ("or", A, B), C))
        self.assertEqual(read("a&(b|c)"), ("and", A, ("or", B, C)))

    def test_like_ones_from_the_left_on(self):
        self.assertEqual(read("a&b&c&d"), ("and", ("and", ("and", A, B), C), D))
        self.assertEqual(read("a|b|c|d"), ("or", ("or", ("or", A, B), C), D))
        self.assertEqual(read("a&(b&c)"), ("and", A, ("and", B, C)))
        self.assertEqual(read("a|(b|c)"), ("or", A, ("or", B, C)))

    def test_brackets_that_are_not_needed(self):
        for text in ("(a)", "((a))", "(((((a)))))", "(" * 30 + "a" + ")" * 30):
            self.assertEqual(read(text), A)
        self.assertEqual(read("(a&b)&c"), ("and", ("and", A, B), C))
        self.assertEqual(read("((a)|((b)&(c)))"), ("or", A, ("and", B, C)))
        self.assertEqual(read("!(a)"), ("not", A))
        self.assertEqual(read("!(!(a))"), nots(A, 2))
        self.assertEqual(read("(!a)&(!(b))"), ("and", ("not", A), ("not", B)))
        self.assertEqual(written(read("((!((a)&((b))))|(c))")), "!(a&b)|c")

    def test_brackets_are_no_others_around(self):
        ten = "!" * 10 + "a"
        for text in ("(" * 30 + ten + ")" * 30, "(!" * 10 + "a" + ")" * 10):
            self.assertEqual(read(text), nots(A, 10))

    def test_somewhat_more_brackets_and_signs(self):
        self.assertEqual(read("(" * 40 + "a" + ")" * 40), A)
        self.assertEqual(read("(" * 120 + "a" + ")" * 120), A)

    def test_all_short_ones(self):
        for many in range(1, 8):
            for signs in itertools.product("a!&|()", repeat=many):
                text = "".join(signs)
                if writes_one(text) and read(text) != read_by_python(text):
                    self.fail(f"{text} is not {read_by_python(text)}")

    def test_as_large_as_may_be(self):
        for text in ("a&b|c&d|e&f|g&h|a&b|!(c&d)", "&".join("abcdefghabc"), "!" * 10 + "h", "!(!(!(!(!(!(a|b)))&c)))"):
            self.assertEqual(read(text), read_by_python(text))

    def test_kinds(self):
        def kinds(told):
            if type(told) is not tuple:
                return {type(told)}
            return set().union(*map(kinds, told))

        for condition in GOOD_CONDITIONS:
            told = read(written(condition))
            self.assertIs(type(told), tuple)
            self.assertEqual(kinds(told), {str, int})

    def test_more_than_twelve_looks(self):
        self.assertEqual(read("(a&b|c)&(d|e|f)&(g|h&a)&(b|c|d)"), read_by_python("(a&b|c)&(d|e|f)&(g|h&a)&(b|c|d)"))
        self.assertEqual(refusal(read, "(a&b|c)&(d|e|f)&(g|h&a)&(b|c|d|e)"), (BadCondition, None))
        self.assertEqual(refusal(read, "&".join("abcdefghabcde")), (BadCondition, None))
        self.assertEqual(refusal(read, "|".join("a" * 100)), (BadCondition, None))
        self.assertEqual(refusal(read, "&".join("a" * 100) + "&b"), (BadCondition, None))

    def test_within_more_than_ten(self):
        self.assertEqual(refusal(read, "!" * 11 + "a"), (BadCondition, None))
        self.assertEqual(refusal(read, "!" * 199 + "a"), (BadCondition, None))
        self.assertEqual(refusal(read, "!" * 300 + "a"), (BadCondition, None))
        self.assertEqual(refusal(read, "(!" * 30 + "a" + ")" * 30), (BadCondition, None))
        self.assertEqual(refusal(read, "&".join("abcdefghabcd")), (BadCondition, None))
        self.assertEqual(read("a&" * 10 + "b"), ("and", chain_of_a(10), B))
        self.assertEqual(refusal(read, "!(" + "a&" * 10 + "b)"), (BadCondition, None))
        self.assertEqual(read("a&(" * 10 + "a" + ")" * 10), read_by_python("a&(" * 10 + "a" + ")" * 10))
        self.assertEqual(refusal(read, "a&(" * 11 + "a" + ")" * 11), (BadCondition, None))

    def test_the_texts_of_conditions_beyond_the_bounds(self):
        for text in ("!" + written(within(A, 10)), written(balanced(12)) + "|a", written(nots(B, 10)) + "&a"):
            self.assertTrue(writes_one(text))
            self.assertEqual(refusal(read, text), (BadCondition, None))


def chain_of_a(many):
    """So many looks at thing 0, joined by and from the left on."""
    condition = A
    for _ in range(many - 1):
        condition = ("and", condition, A)
    return condition


class Refused(unittest.TestCase):
    """Point 13, of texts that write no condition."""

    def check(self, text, place):
        if refusal(read, text) != (BadText, place):
            self.fail(f"{text!r} is not refused with {place}")

    def test_texts_that_must_go_on(self):
        texts = ["", "!", "!!", "(", "((", "a&", "a|", "a&b|", "(a", "(a&b", "((a)", "!(a|b", "a&(", "a&!", "(a&b)|"]
        for text in texts + ["!" * 200, "(" * 30, "a&" * 100, "(" * 30 + "a" + ")" * 29]:
            self.check(text, len(text))

    def test_signs_that_are_none_of_a_condition(self):
        for code in range(ord(" "), ord("~") + 1):
            sign = chr(code)
            if sign in "abcdefgh!&|()" or code == 37:
                continue
            self.check(sign, 0)
            self.check(sign + "a", 0)
            self.check("a" + sign, 1)
            self.check("a" + sign + "b", 1)
            self.check("!(a&" + sign, 4)
            self.check("(a|b)" + sign, 5)

    def test_blanks(self):
        for text, place in ((" ", 0), (" a", 0), ("a ", 1), ("a &b", 1), ("a& b", 2), ("! a", 1), ("( a)", 1)):
            self.check(text, place)

    def test_signs_where_none_of_their_kind_may_stand(self):
        cases = [
            ("&", 0), ("|", 0), ("&a", 0), ("ab", 1), ("a!", 1), ("a!b", 1), ("a(", 1), ("a(b)", 1), ("!&a", 1),
            ("a&&b", 2), ("a||b", 2), ("a&|b", 2), ("a|&b", 2), ("(&a)", 1), ("(a&)", 3), ("(a|)b", 3), ("(!)", 2),
            ("()", 1), ("()a", 1), ("(a)b", 3), ("(a)!b", 3), ("(a)(b)", 3), ("a&bc", 3), ("!a!", 2), ("((a)&)", 5),
        ]
        for text, place in cases:
            self.check(text, place)

    def test_a_bracket_that_closes_none(self):
        cases = [(")", 0), ("a)", 1), ("(a))", 3), ("a)&b", 1), ("a&b)", 3), ("(a)&b)", 5), ("!a)", 2), ("a)(b", 1)]
        for text, place in cases + [("(" * 30 + "a" + ")" * 31, 61), (")a(", 0)]:
            self.check(text, place)

    def test_the_first_sign_counts(self):
        self.check("a&?b)x", 2)
        self.check("(a b", 2)
        self.check("((a&b)c", 6)
        self.check("A&&", 0)

    def test_ahead_of_the_bounds_of_conditions(self):
        thirteen = "&".join("abcdefghabcde")
        self.check(thirteen + "&", 26)
        self.check(thirteen + ")", 25)
        self.check(thirteen + "a", 25)
        self.check("(" + thirteen, 26)
        self.check("!" * 20, 20)
        self.check("!" * 20 + "i", 20)
        self.check("!" * 20 + "a|", 22)
        self.check("!" * 198 + "a?", 199)

    def test_all_short_ones(self):
        for many in range(6):
            for signs in itertools.product("ah!&|()?", repeat=many):
                text = "".join(signs)
                if not writes_one(text):
                    self.check(text, place_of(text))

    def test_each_text_of_a_condition_with_a_sign_less_or_another_one(self):
        for condition in GOOD_CONDITIONS + FEW_PAIRS:
            text = written(condition)
            for place in range(len(text)):
                for sign in ["", *"ah!&|() z"]:
                    other = text[:place] + sign + text[place + 1:]
                    if not writes_one(other):
                        self.check(other, place_of(other))


if __name__ == "__main__":
    unittest.main()
