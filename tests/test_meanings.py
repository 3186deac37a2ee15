"""What a condition comes to, and what it looks at (point 3)."""

import copy
import unittest

from jumpsay.conditions import turned
from jumpsay.errors import BadCondition, BadWorths
from jumpsay.meanings import meant
from tests.samples import (
    A, ALL_WORTHS, B, BAD_WORTHS, C, D, GOOD_CONDITIONS, H, as_python, bad_conditions, balanced, nots,
    small_conditions,
)


def expected_of(condition):
    """A function that tells of worths what meant must tell."""
    done = eval("lambda look: " + as_python(condition))

    def told(worths):
        looks = []

        def look(thing):
            looks.append(thing)
            return worths[thing]

        worth = int(done(look))
        return worth, looks

    return told


def worths_of(**given):
    """Worths that are 0 but for the things named by their letters."""
    return tuple(given.get(letter, 0) for letter in "abcdefgh")


class Meant(unittest.TestCase):
    def check_all_worths(self, condition):
        expected = expected_of(condition)
        for worths in ALL_WORTHS:
            if meant(condition, worths) != expected(worths):
                self.fail(f"{condition} with {worths} is not {expected(worths)}")

    def test_look(self):
        for thing in range(8):
            for worths in ALL_WORTHS:
                self.assertEqual(meant(("look", thing), worths), (worths[thing], [thing]))

    def test_not(self):
        self.assertEqual(meant(("not", H), worths_of(h=1)), (0, [7]))
        self.assertEqual(meant(("not", H), worths_of()), (1, [7]))
        self.assertEqual(meant(("not", ("not", B)), worths_of(b=1)), (1, [1]))
        self.assertEqual(meant(nots(A, 9), worths_of()), (1, [0]))

    def test_and(self):
        both = ("and", A, B)
        self.assertEqual(meant(both, worths_of()), (0, [0]))
        self.assertEqual(meant(both, worths_of(b=1)), (0, [0]))
        self.assertEqual(meant(both, worths_of(a=1)), (0, [0, 1]))
        self.assertEqual(meant(both, worths_of(a=1, b=1)), (1, [0, 1]))

    def test_or(self):
        either = ("or", A, B)
        self.assertEqual(meant(either, worths_of()), (0, [0, 1]))
        self.assertEqual(meant(either, worths_of(b=1)), (1, [0, 1]))
        self.assertEqual(meant(either, worths_of(a=1)), (1, [0]))
        self.assertEqual(meant(either, worths_of(a=1, b=1)), (1, [0]))

    def test_a_thing_looked_at_twice_is_told_twice(self):
        self.assertEqual(meant(("and", A, A), worths_of(a=1)), (1, [0, 0]))
        self.assertEqual(meant(("and", A, A), worths_of()), (0, [0]))
        self.assertEqual(meant(("or", A, ("not", A)), worths_of()), (1, [0, 0]))
        condition = ("or", ("and", C, D), ("and", C, ("not", D)))
        self.assertEqual(meant(condition, worths_of(c=1)), (1, [2, 3, 2, 3]))
        self.assertEqual(meant(condition, worths_of()), (0, [2, 2]))

    def test_nested(self):
        condition = ("and", ("or", D, ("not", A)), ("not", ("and", C, B)))
        self.assertEqual(meant(condition, worths_of(a=1)), (0, [3, 0]))
        self.assertEqual(meant(condition, worths_of()), (1, [3, 0, 2]))
        self.assertEqual(meant(condition, worths_of(d=1, c=1)), (1, [3, 2, 1]))
        self.assertEqual(meant(condition, worths_of(d=1, c=1, b=1)), (0, [3, 2, 1]))

    def test_small_ones_over_all_worths(self):
        for condition in small_conditions():
            self.check_all_worths(condition)

    def test_large_ones_over_all_worths(self):
        for condition in GOOD_CONDITIONS:
            self.check_all_worths(condition)
            self.check_all_worths(turned(condition, [1] * (repr(condition).count("look") - 1)))

    def test_kinds(self):
        for condition in GOOD_CONDITIONS:
            told = meant(condition, ALL_WORTHS[90])
            self.assertIs(type(told), tuple)
            self.assertEqual([type(part) for part in told], [int, list])
            self.assertTrue(all(type(thing) is int for thing in told[1]))


class Refused(unittest.TestCase):
    def test_bad_worths(self):
        for condition in GOOD_CONDITIONS:
            for worths in BAD_WORTHS:
                with self.subTest(condition=condition, worths=worths):
                    self.assertRaises(BadWorths, meant, condition, worths)

    def test_a_worth_that_is_none_at_each_place(self):
        for place in range(8):
            for wrong in (2, -1):
                worths = (0,) * place + (wrong,) + (0,) * (7 - place)
                self.assertRaises(BadWorths, meant, A, worths)

    def test_true_and_false_are_no_worths(self):
        self.assertRaises(BadWorths, meant, A, (True,) * 8)
        self.assertRaises(BadWorths, meant, A, (0,) * 7 + (False,))

    def test_bad_conditions(self):
        for place, condition in enumerate(bad_conditions()):
            # By place: the deepest ones cannot be shown.
            with self.subTest(place=place):
                for worths in (ALL_WORTHS[0], ALL_WORTHS[-1]):
                    self.assertRaises(BadCondition, meant, condition, worths)

    def test_a_bad_condition_is_refused_ahead_of_bad_worths(self):
        for condition in (("look", 8), ("and", A, 0), balanced(13), nots(A, 11), ()):
            for worths in BAD_WORTHS:
                self.assertRaises(BadCondition, meant, condition, worths)


class Untouched(unittest.TestCase):
    def test_what_is_handed_in_is_the_same_afterwards(self):
        for condition in GOOD_CONDITIONS:
            worths = ALL_WORTHS[90]
            before = copy.deepcopy((condition, worths))
            meant(condition, worths)
            self.assertEqual((condition, worths), before)

    def test_a_told_list_may_be_changed(self):
        for condition in GOOD_CONDITIONS:
            for worths in (ALL_WORTHS[0], ALL_WORTHS[90], ALL_WORTHS[-1]):
                first = meant(condition, worths)
                before = copy.deepcopy(first)
                first[1].append(5)
                first[1].reverse()
                second = meant(condition, worths)
                self.assertEqual(second, before)
                self.assertIsNot(second[1], first[1])

    def test_one_told_list_is_not_the_other(self):
        one = meant(A, ALL_WORTHS[0])[1]
        other = meant(("not", A), ALL_WORTHS[0])[1]
        one.clear()
        self.assertEqual(other, [0])


if __name__ == "__main__":
    unittest.main()
