"""What a condition is (point 2), and its sides exchanged (point 4)."""

import ast
import copy
import itertools
import re
import unittest

from jumpsay.conditions import turned
from jumpsay.errors import BadCondition, BadTurns
from tests.samples import (
    A, B, C, D, E, F, G, H, GOOD_CONDITIONS, HUGE, balanced, bad_conditions, chain, nots, pairs_in, small_conditions,
    within,
)


def tagged(condition):
    """The condition, with each pair's number, as they are written, ahead of its word."""
    numbers = itertools.count()
    text = re.sub("'(and|or)'", lambda found: f"{next(numbers)}, {found.group()}", repr(condition))
    return ast.literal_eval(text)


def told_by_numbers(node, turns):
    """The turned condition, of one with numbers, whatever order it is gone through."""
    if node[0] == "look":
        return node
    if node[0] == "not":
        return ("not", told_by_numbers(node[1], turns))
    number, word, one, other = node
    sides = [told_by_numbers(side, turns) for side in (one, other)]
    return (word, *(sides[::-1] if turns[number] else sides))


class Conditions(unittest.TestCase):
    def test_all_things(self):
        for thing in range(8):
            self.assertEqual(turned(("look", thing), []), ("look", thing))

    def test_good_ones_stay_as_they_are_without_turns(self):
        for condition in GOOD_CONDITIONS:
            with self.subTest(condition=condition):
                self.assertEqual(turned(condition, [0] * pairs_in(condition)), condition)

    def test_bad_ones_are_refused(self):
        for place, condition in enumerate(bad_conditions()):
            # By place: the deepest ones cannot be shown.
            with self.subTest(place=place):
                for turns in ([], [0], [0, 0]):
                    self.assertRaises(BadCondition, turned, condition, turns)

    def test_twelve_looks_and_no_more(self):
        self.assertEqual(turned(balanced(12), [0] * 11), balanced(12))
        self.assertRaises(BadCondition, turned, balanced(13), [0] * 12)

    def test_within_ten_and_no_more(self):
        for make in (nots, within):
            ten, eleven = make(A, 10), make(A, 11)
            self.assertEqual(turned(ten, [0] * pairs_in(ten)), ten)
            self.assertRaises(BadCondition, turned, eleven, [0] * pairs_in(eleven))
        self.assertEqual(turned(chain("and", 11), [0] * 10), chain("and", 11))
        self.assertRaises(BadCondition, turned, chain("and", 12), [0] * 11)

    def test_deep_on_any_side(self):
        for deep in (("or", A, nots(A, 9)), ("or", nots(A, 9), A)):
            self.assertEqual(turned(deep, [0]), deep)
            self.assertRaises(BadCondition, turned, ("not", deep), [0])

    def test_true_and_false_are_no_things(self):
        for thing in (True, False):
            self.assertRaises(BadCondition, turned, ("look", thing), [])

    def test_a_number_or_a_text_is_none(self):
        for condition in (0, 1, "", "a", "look"):
            self.assertRaises(BadCondition, turned, condition, [])


class Turned(unittest.TestCase):
    def test_no_pair(self):
        self.assertEqual(turned(A, []), A)
        self.assertEqual(turned(("not", ("not", H)), []), ("not", ("not", H)))

    def test_one_pair(self):
        for word in ("and", "or"):
            self.assertEqual(turned((word, A, B), [0]), (word, A, B))
            self.assertEqual(turned((word, A, B), [1]), (word, B, A))
        self.assertEqual(turned(("not", ("or", A, ("not", B))), [1]), ("not", ("or", ("not", B), A)))

    def test_a_pair_is_ahead_of_those_within_it(self):
        left = ("and", ("or", A, B), C)
        self.assertEqual(turned(left, [1, 0]), ("and", C, ("or", A, B)))
        self.assertEqual(turned(left, [0, 1]), ("and", ("or", B, A), C))
        self.assertEqual(turned(left, [1, 1]), ("and", C, ("or", B, A)))
        right = ("and", A, ("or", B, C))
        self.assertEqual(turned(right, [1, 0]), ("and", ("or", B, C), A))
        self.assertEqual(turned(right, [0, 1]), ("and", A, ("or", C, B)))

    def test_the_first_side_is_ahead_of_the_second(self):
        condition = ("or", ("and", A, B), ("and", C, D))
        self.assertEqual(turned(condition, [0, 1, 0]), ("or", ("and", B, A), ("and", C, D)))
        self.assertEqual(turned(condition, [0, 0, 1]), ("or", ("and", A, B), ("and", D, C)))
        # The order is that of what is handed in, even where the outer pair is exchanged.
        self.assertEqual(turned(condition, [1, 1, 0]), ("or", ("and", C, D), ("and", B, A)))
        self.assertEqual(turned(condition, [1, 0, 1]), ("or", ("and", D, C), ("and", A, B)))

    def test_deep_ones_are_ahead_of_the_second_side(self):
        condition = ("and", ("not", ("or", ("and", A, B), ("not", ("or", C, D)))), ("or", E, ("and", F, G)))
        self.assertEqual(
            turned(condition, [0, 0, 0, 1, 0, 0]),
            ("and", ("not", ("or", ("and", A, B), ("not", ("or", D, C)))), ("or", E, ("and", F, G))),
        )
        self.assertEqual(
            turned(condition, [1, 1, 1, 0, 0, 1]),
            ("and", ("or", E, ("and", G, F)), ("not", ("or", ("not", ("or", C, D)), ("and", B, A)))),
        )

    def test_against_the_numbers_as_they_are_written(self):
        several = [
            ("and", ("not", ("or", ("and", A, B), ("not", ("or", C, D)))), ("or", E, ("and", F, G))),
            ("or", ("not", ("and", A, ("or", B, ("and", C, D)))), ("not", ("and", ("or", E, F), G))),
            within(H, 10),
            balanced(7),
            balanced(12),
            chain("or", 11),
        ]
        for condition in several + small_conditions():
            numbered = tagged(condition)
            for turns in itertools.product((0, 1), repeat=pairs_in(condition)):
                expected = told_by_numbers(numbered, turns)
                if turned(condition, list(turns)) != expected:
                    self.fail(f"{condition} with {turns} is not {expected}")

    def test_bad_turns(self):
        for condition in GOOD_CONDITIONS:
            many = pairs_in(condition)
            bad = [[0] * (many + 1), [1] * (many + 1), [0] * (many + 12), [2] * (many + 1)]
            if many:
                bad += [[], [0] * (many - 1), [1] * (many - 1)]
            for wrong in (2, -1, 3, HUGE, -HUGE):
                bad += [[0] * place + [wrong] + [1] * (many - 1 - place) for place in range(many)]
            for turns in bad:
                with self.subTest(condition=condition, turns=turns):
                    self.assertRaises(BadTurns, turned, condition, turns)

    def test_a_bad_condition_is_refused_ahead_of_bad_turns(self):
        for condition in (("look", 8), ("and", A, 0), balanced(13), nots(A, 11), ()):
            for turns in ([2], [0] * 40, [-1, 0]):
                self.assertRaises(BadCondition, turned, condition, turns)


class Untouched(unittest.TestCase):
    def test_what_is_handed_in_is_the_same_afterwards(self):
        for condition in GOOD_CONDITIONS:
            for turn in (0, 1):
                turns = [turn] * pairs_in(condition)
                before = copy.deepcopy((condition, turns))
                turned(condition, turns)
                self.assertEqual((condition, turns), before)

    def test_bad_turns_are_the_same_afterwards(self):
        turns = [0, 2]
        self.assertRaises(BadTurns, turned, ("and", A, B), turns)
        self.assertEqual(turns, [0, 2])

    def test_turns_may_be_changed_later(self):
        turns = [1, 0]
        condition = ("and", A, ("or", B, C))
        told = turned(condition, turns)
        turns[:] = [0, 1]
        self.assertEqual(told, ("and", ("or", B, C), A))
        self.assertEqual(turned(condition, turns), ("and", A, ("or", C, B)))
        turns.clear()
        self.assertRaises(BadTurns, turned, condition, turns)

    def test_what_is_told_is_new(self):
        for condition in GOOD_CONDITIONS:
            self.assertIsNot(turned(condition, [0] * pairs_in(condition)), condition)


if __name__ == "__main__":
    unittest.main()
