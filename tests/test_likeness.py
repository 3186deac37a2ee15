"""Whether two conditions are alike, or what parts them (point 11)."""

import copy
import itertools
import unittest

from jumpsay.conditions import turned
from jumpsay.errors import BadCondition
from jumpsay.likeness import alike, like_worth, parting
from jumpsay.meanings import meant
from tests.samples import (
    A, ALL_WORTHS, B, C, D, E, F, FEW_PAIRS, G, GOOD_CONDITIONS, H, bad_conditions, balanced, chain, nots, pairs_in,
    refusal, small_conditions,
)

ZEROS = (0,) * 8
ONES = (1,) * 8
ALL_EIGHT = ("and", ("and", ("and", A, B), ("and", C, D)), ("and", ("and", E, F), ("and", G, H)))


def ways(condition):
    """What meant tells of a condition, for all worths as tuples ascend."""
    return [meant(condition, worths) for worths in ALL_WORTHS]


class Likeness(unittest.TestCase):
    def check(self, one, other, of_one, of_other):
        """Checks all that is told of two conditions, where what meant tells of them is known."""
        told = None
        for worths, first, second in zip(ALL_WORTHS, of_one, of_other):
            if told is None and first != second:
                told = (worths, first, second)
        same_worth = [worth for worth, _ in of_one] == [worth for worth, _ in of_other]
        if (parting(one, other), alike(one, other), like_worth(one, other)) != (told, told is None, same_worth):
            self.fail(f"{one} and {other} are not parted by {told}, or not {same_worth}")

    def test_parted_at_the_first_worths(self):
        self.assertEqual(parting(A, ("not", A)), (ZEROS, (0, [0]), (1, [0])))
        self.assertEqual(parting(A, B), (ZEROS, (0, [0]), (0, [1])))
        self.assertEqual(parting(("or", A, B), A), (ZEROS, (0, [0, 1]), (0, [0])))
        self.assertEqual(parting(A, ("or", A, B)), (ZEROS, (0, [0]), (0, [0, 1])))

    def test_parted_at_the_last_worths(self):
        self.assertEqual(
            parting(ALL_EIGHT, ("and", ALL_EIGHT, C)),
            (ONES, (1, list(range(8))), (1, list(range(8)) + [2])),
        )
        self.assertEqual(
            parting(("and", ALL_EIGHT, ("not", C)), ("and", ALL_EIGHT, C)),
            (ONES, (0, list(range(8)) + [2]), (1, list(range(8)) + [2])),
        )
        self.assertFalse(alike(ALL_EIGHT, ("and", ALL_EIGHT, C)))
        self.assertTrue(like_worth(ALL_EIGHT, ("and", ALL_EIGHT, C)))
        self.assertFalse(like_worth(("and", ALL_EIGHT, ("not", C)), ("and", ALL_EIGHT, C)))

    def test_parted_between(self):
        told = parting(("and", A, B), ("and", A, C))
        self.assertEqual(told, ((1, 0, 0, 0, 0, 0, 0, 0), (0, [0, 1]), (0, [0, 2])))
        told = parting(("and", H, ("or", G, A)), ("and", H, G))
        self.assertEqual(told, ((0, 0, 0, 0, 0, 0, 0, 1), (0, [7, 6, 0]), (0, [7, 6])))
        told = parting(("or", ("not", B), ("and", B, F)), ("or", ("not", B), ("not", ("and", B, F))))
        self.assertEqual(told, ((0, 1, 0, 0, 0, 0, 0, 0), (0, [1, 1, 5]), (1, [1, 1, 5])))

    def test_what_is_told_stands_in_the_order_handed_in(self):
        for one, other in itertools.permutations([A, ("not", A), ("or", A, B), ("and", B, A)], 2):
            worths, told_of_one, told_of_other = parting(one, other)
            self.assertEqual(told_of_one, meant(one, worths))
            self.assertEqual(told_of_other, meant(other, worths))
            self.assertEqual(parting(other, one), (worths, told_of_other, told_of_one))

    def test_parted_nowhere(self):
        pairs = [
            (A, ("not", ("not", A))),
            (("not", ("and", A, B)), ("or", ("not", A), ("not", B))),
            (("not", ("or", A, B)), ("and", ("not", A), ("not", B))),
            (("and", A, ("and", B, C)), ("and", ("and", A, B), C)),
            (("or", ("or", H, B), C), ("or", H, ("or", B, C))),
            (("not", balanced(12)), nots(balanced(12), 3)),
        ]
        for one, other in pairs:
            for first, second in ((one, other), (other, one)):
                self.assertIsNone(parting(first, second))
                self.assertIs(alike(first, second), True)
                self.assertIs(like_worth(first, second), True)

    def test_each_is_like_itself(self):
        for condition in GOOD_CONDITIONS:
            self.assertIsNone(parting(condition, condition))
            self.assertIs(alike(condition, copy.deepcopy(condition)), True)
            self.assertIs(like_worth(condition, condition), True)

    def test_of_like_worth_but_with_other_looks(self):
        pairs = [
            (("and", A, B), ("and", B, A)),
            (("or", A, B), ("or", B, A)),
            (A, ("and", A, A)),
            (A, ("or", A, ("and", A, B))),
            (("and", A, ("not", A)), ("and", H, ("not", H))),
            (balanced(7), turned(balanced(7), [1] * 6)),
        ]
        for one, other in pairs:
            self.assertIsNotNone(parting(one, other))
            self.assertIs(alike(one, other), False)
            self.assertIs(like_worth(one, other), True)

    def test_of_unlike_worth(self):
        for one, other in [(A, B), (A, ("not", A)), (("and", A, B), ("or", A, B)), (A, ("and", A, B))]:
            self.assertIs(alike(one, other), False)
            self.assertIs(like_worth(one, other), False)

    def test_of_unlike_worth_at_the_first_worths_alone_and_at_the_last_alone(self):
        none = ("not", ("or", ("or", ("or", A, B), ("or", C, D)), ("or", ("or", E, F), ("or", G, H))))
        self.assertIs(like_worth(none, ("and", A, ("not", A))), False)
        self.assertIs(like_worth(ALL_EIGHT, ("and", A, ("not", A))), False)

    def test_against_all_worths(self):
        conditions = GOOD_CONDITIONS + FEW_PAIRS + [ALL_EIGHT, ("and", ALL_EIGHT, A), ("not", ALL_EIGHT)]
        known = [(condition, ways(condition)) for condition in conditions]
        for (one, of_one), (other, of_other) in itertools.product(known, repeat=2):
            self.check(one, other, of_one, of_other)

    def test_small_ones_against_all_worths(self):
        known = [(condition, ways(condition)) for condition in small_conditions()]
        for one, of_one in known[::23]:
            for other, of_other in known:
                self.check(one, other, of_one, of_other)

    def test_turned_ones(self):
        for condition in FEW_PAIRS:
            for turns in ([0] * pairs_in(condition), [1] * pairs_in(condition)):
                other = turned(condition, turns)
                self.check(condition, other, ways(condition), ways(other))
                self.assertIs(like_worth(condition, other), True)

    def test_kinds(self):
        worths, *told = parting(chain("and", 9), chain("and", 8))
        self.assertIs(type(worths), tuple)
        self.assertTrue(all(type(worth) is int for worth in worths))
        for part in told:
            self.assertIs(type(part), tuple)
            self.assertEqual([type(piece) for piece in part], [int, list])
        self.assertIs(type(parting(A, B)), tuple)

    def test_told_lists_may_be_changed(self):
        condition = ("and", A, B)
        for other in (("and", B, A), ("not", condition), ("or", condition, condition)):
            told = parting(condition, other)
            before = copy.deepcopy(told)
            told[1][1].append(7)
            self.assertEqual(told[2], before[2])
            told[2][1].clear()
            self.assertEqual(parting(condition, other), before)

    def test_bad_conditions(self):
        for place, condition in enumerate(bad_conditions()):
            # By place: the deepest ones cannot be shown.
            with self.subTest(place=place):
                for call in (parting, alike, like_worth):
                    self.assertEqual(refusal(call, condition, A), (BadCondition, None))
                    self.assertEqual(refusal(call, A, condition), (BadCondition, None))
                    self.assertEqual(refusal(call, condition, condition), (BadCondition, None))


if __name__ == "__main__":
    unittest.main()
