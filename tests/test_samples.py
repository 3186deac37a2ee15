"""The samples are what their names say, so that the bounds are tested where they are."""

import unittest

from tests import samples


def looks_in(condition):
    if condition[0] == "look":
        return 1
    return sum(looks_in(side) for side in condition[1:])


def depth(condition):
    if condition[0] == "look":
        return 0
    return 1 + max(depth(side) for side in condition[1:])


class Samples(unittest.TestCase):
    def test_looks(self):
        for many in range(1, 65):
            self.assertEqual(looks_in(samples.balanced(many)), many)
            self.assertEqual(looks_in(samples.chain("or", many)), many)
        self.assertEqual(depth(samples.balanced(13)), 4)

    def test_depths(self):
        for many in range(13):
            self.assertEqual(depth(samples.within(samples.A, many)), many)
            self.assertEqual(depth(samples.nots(samples.A, many)), many)
        self.assertLessEqual(looks_in(samples.within(samples.A, 12)), 12)

    def test_the_good_ones_reach_both_bounds(self):
        self.assertEqual(max(looks_in(condition) for condition in samples.GOOD_CONDITIONS), 12)
        self.assertEqual(max(depth(condition) for condition in samples.GOOD_CONDITIONS), 10)

    def test_pairs(self):
        self.assertEqual({samples.pairs_in(condition) for condition in samples.FEW_PAIRS}, {0, 1, 2, 3, 4, 5, 6})
        self.assertEqual(min(samples.pairs_in(condition) for condition in samples.MORE_PAIRS), 7)
        for condition in samples.FEW_PAIRS + samples.MORE_PAIRS:
            self.assertLessEqual(depth(condition), 10)
            self.assertLessEqual(looks_in(condition), 12)

    def test_things(self):
        self.assertEqual(samples.things_in(("or", samples.H, ("not", ("and", samples.C, samples.H)))), [7, 2, 7])


if __name__ == "__main__":
    unittest.main()
