"""Looks and jumps by likely worths (point 9), and the turns that need the fewest (point 10)."""

import itertools
import math
import unittest

from jumpsay.codes import coded, run
from jumpsay.conditions import turned
from jumpsay.errors import BadChances, BadCondition, BadEnd, TooMany
from jumpsay.likely import fewest_jumps, fewest_looks, jumps, looks
from jumpsay.meanings import meant
from tests.samples import (
    A, ALL_WORTHS, B, BAD_CHANCES, C, CHANCES, D, E, F, FEW_PAIRS, G, GOOD_CONDITIONS, H, HUGE, MORE_PAIRS,
    bad_conditions, balanced, chain, nots, pairs_in, refusal, small_conditions,
)

ALL = 100 ** 8
EVEN = (50,) * 8


def chances_of(**given):
    """Chances that are 50 but for the things named by their letters."""
    return tuple(given.get(letter, 50) for letter in "abcdefgh")


def counted(many_of, chances):
    """How many there are in all times, where `many_of` tells how many there are with worths."""
    return sum(
        math.prod(chance if worth else 100 - chance for worth, chance in zip(worths, chances)) * many_of(worths)
        for worths in ALL_WORTHS
    )


class Looks(unittest.TestCase):
    def check(self, condition, chances):
        expected = counted(lambda worths: len(meant(condition, worths)[1]), chances)
        if looks(condition, chances) != expected:
            self.fail(f"{condition} with {chances} is not {expected}")

    def test_one_look_is_one_in_all_times(self):
        for condition in (A, H, ("not", D), nots(C, 10)):
            for chances in CHANCES:
                self.assertEqual(looks(condition, chances), ALL)

    def test_a_second_side_is_done_by_the_chance_of_the_first(self):
        for chance in (0, 1, 37, 50, 99, 100):
            self.assertEqual(looks(("and", C, A), chances_of(c=chance)), ALL + chance * 100 ** 7)
            self.assertEqual(looks(("or", C, A), chances_of(c=chance)), ALL + (100 - chance) * 100 ** 7)
            self.assertEqual(looks(("and", ("not", C), A), chances_of(c=chance)), ALL + (100 - chance) * 100 ** 7)

    def test_a_thing_has_one_worth_however_often_it_is_looked_at(self):
        condition = ("and", ("and", A, A), B)
        self.assertEqual(looks(condition, chances_of(a=30)), ALL + 2 * 30 * 100 ** 7)
        condition = ("and", ("and", A, ("not", A)), B)
        self.assertEqual(looks(condition, chances_of(a=30)), ALL + 30 * 100 ** 7)

    def test_three_things(self):
        condition = ("and", ("and", F, G), H)
        self.assertEqual(looks(condition, chances_of(f=20, g=70)), ALL + 20 * 100 ** 7 + 20 * 70 * 100 ** 6)

    def test_against_a_count_over_all_worths(self):
        for condition in GOOD_CONDITIONS + FEW_PAIRS + MORE_PAIRS:
            for chances in CHANCES:
                self.check(condition, chances)

    def test_small_ones_against_a_count_over_all_worths(self):
        for place, condition in enumerate(small_conditions()):
            self.check(condition, CHANCES[place % len(CHANCES)])

    def test_kind(self):
        self.assertIs(type(looks(balanced(12), EVEN)), int)


class Jumps(unittest.TestCase):
    def check(self, condition, first, chances):
        rows = coded(condition, first)
        expected = counted(lambda worths: run(rows, worths)[2], chances)
        if jumps(condition, first, chances) != expected:
            self.fail(f"{condition} with {first} first and {chances} is not {expected}")

    def test_one_look(self):
        for chance in (0, 1, 37, 50, 99, 100):
            for thing, letter in enumerate("abcdefgh"):
                chances = chances_of(**{letter: chance})
                self.assertEqual(jumps(("look", thing), 0, chances), chance * 100 ** 7)
                self.assertEqual(jumps(("look", thing), 1, chances), (100 - chance) * 100 ** 7)
                self.assertEqual(jumps(("not", ("look", thing)), 1, chances), chance * 100 ** 7)

    def test_one_pair(self):
        chances = chances_of(a=30, b=80)
        # With 1 first both looks jump by worth 0; with 0 first the second one by worth 1.
        self.assertEqual(jumps(("and", A, B), 1, chances), (70 * 100 + 30 * 20) * 100 ** 6)
        self.assertEqual(jumps(("and", A, B), 0, chances), (70 * 100 + 30 * 80) * 100 ** 6)
        self.assertEqual(jumps(("or", A, B), 1, chances), (30 * 100 + 70 * 20) * 100 ** 6)
        self.assertEqual(jumps(("or", A, B), 0, chances), (30 * 100 + 70 * 80) * 100 ** 6)

    def test_a_thing_has_one_worth_however_often_it_is_looked_at(self):
        self.assertEqual(jumps(("or", ("not", A), A), 1, chances_of(a=30)), 70 * 100 ** 7)
        self.assertEqual(jumps(("or", ("not", A), A), 0, chances_of(a=30)), ALL)

    def test_several_jumps_at_once(self):
        condition = ("or", ("and", A, B), C)
        sure = (0, 0, 0, 0, 0, 0, 0, 0)
        self.assertEqual(jumps(condition, 1, sure), 2 * ALL)
        self.assertEqual(jumps(condition, 0, sure), ALL)

    def test_against_a_count_over_all_worths(self):
        for condition in GOOD_CONDITIONS + FEW_PAIRS + MORE_PAIRS:
            for chances in CHANCES:
                for first in (0, 1):
                    self.check(condition, first, chances)

    def test_small_ones_against_a_count_over_all_worths(self):
        for place, condition in enumerate(small_conditions()):
            for first in (0, 1):
                self.check(condition, first, CHANCES[place % len(CHANCES)])

    def test_kind(self):
        self.assertIs(type(jumps(balanced(12), 1, EVEN)), int)


class Refused(unittest.TestCase):
    def test_bad_chances(self):
        for condition in (A, ("and", A, B), balanced(7)):
            for chances in BAD_CHANCES:
                with self.subTest(condition=condition, chances=chances):
                    self.assertEqual(refusal(looks, condition, chances), (BadChances, None))
                    self.assertEqual(refusal(jumps, condition, 0, chances), (BadChances, None))
                    self.assertEqual(refusal(jumps, condition, 1, chances), (BadChances, None))
                    self.assertEqual(refusal(fewest_looks, condition, chances), (BadChances, None))
                    self.assertEqual(refusal(fewest_jumps, condition, chances), (BadChances, None))

    def test_a_chance_that_is_none_at_each_place(self):
        for place in range(8):
            for chance, wrong in ((0, False), (100, False), (-1, True), (101, True)):
                chances = EVEN[:place] + (chance,) + EVEN[place + 1:]
                expected = (BadChances, None) if wrong else None
                self.assertEqual(refusal(looks, A, chances), expected)
                self.assertEqual(refusal(jumps, A, 1, chances), expected)

    def test_true_and_false_are_no_chances(self):
        self.assertEqual(refusal(looks, A, (True,) * 8), (BadChances, None))
        self.assertEqual(refusal(jumps, A, 1, (50,) * 7 + (False,)), (BadChances, None))

    def test_bad_ends(self):
        for first in (2, -1, 100, HUGE, -HUGE):
            for chances in CHANCES[:2] + BAD_CHANCES:
                self.assertEqual(refusal(jumps, ("and", A, B), first, chances), (BadEnd, None))

    def test_bad_conditions_are_refused_ahead_of_all_else(self):
        for place, condition in enumerate(bad_conditions()):
            # By place: the deepest ones cannot be shown.
            with self.subTest(place=place):
                for chances in (EVEN, BAD_CHANCES[place % len(BAD_CHANCES)]):
                    self.assertEqual(refusal(looks, condition, chances), (BadCondition, None))
                    self.assertEqual(refusal(fewest_looks, condition, chances), (BadCondition, None))
                    self.assertEqual(refusal(fewest_jumps, condition, chances), (BadCondition, None))
                    for first in (0, 1, 2, -1):
                        self.assertEqual(refusal(jumps, condition, first, chances), (BadCondition, None))

    def test_more_than_six_pairs(self):
        for condition in MORE_PAIRS:
            for chances in CHANCES:
                self.assertEqual(refusal(fewest_looks, condition, chances), (TooMany, None))
                self.assertEqual(refusal(fewest_jumps, condition, chances), (TooMany, None))
            self.assertIsNone(refusal(looks, condition, EVEN))
            self.assertIsNone(refusal(jumps, condition, 1, EVEN))

    def test_six_pairs_and_no_more(self):
        for word in ("and", "or"):
            for fewest in (fewest_looks, fewest_jumps):
                self.assertIsNone(refusal(fewest, chain(word, 7), EVEN))
                self.assertIsNone(refusal(fewest, ("not", chain(word, 7)), EVEN))
                self.assertEqual(refusal(fewest, chain(word, 8), EVEN), (TooMany, None))

    def test_bad_chances_are_refused_ahead_of_too_many_pairs(self):
        for condition in MORE_PAIRS:
            for chances in BAD_CHANCES:
                self.assertEqual(refusal(fewest_looks, condition, chances), (BadChances, None))
                self.assertEqual(refusal(fewest_jumps, condition, chances), (BadChances, None))


def all_turns(condition):
    """All turns, as lists ascend."""
    return [list(turns) for turns in itertools.product((0, 1), repeat=pairs_in(condition))]


class FewestLooks(unittest.TestCase):
    def check(self, condition, chances):
        best = None
        for turns in all_turns(condition):
            many = looks(turned(condition, turns), chances)
            if best is None or many < best[0]:
                best = (many, turns)
        if fewest_looks(condition, chances) != best:
            self.fail(f"{condition} with {chances} is not {best}")

    def test_no_pair(self):
        for condition in (A, H, ("not", B), nots(C, 10)):
            self.assertEqual(fewest_looks(condition, EVEN), (ALL, []))

    def test_one_pair(self):
        both, either = ("and", A, B), ("or", A, B)
        self.assertEqual(fewest_looks(both, chances_of(a=30, b=20)), (ALL + 20 * 100 ** 7, [1]))
        self.assertEqual(fewest_looks(both, chances_of(a=20, b=30)), (ALL + 20 * 100 ** 7, [0]))
        self.assertEqual(fewest_looks(either, chances_of(a=30, b=20)), (ALL + 70 * 100 ** 7, [0]))
        self.assertEqual(fewest_looks(either, chances_of(a=20, b=30)), (ALL + 70 * 100 ** 7, [1]))

    def test_of_several_the_first_turns(self):
        self.assertEqual(fewest_looks(("and", A, B), EVEN), (ALL + 50 * 100 ** 7, [0]))
        self.assertEqual(fewest_looks(("and", A, A), EVEN), (ALL + 50 * 100 ** 7, [0]))
        never = chances_of(c=0)
        # The outer pair's turn alone counts: the inner one's sides are never looked at.
        self.assertEqual(fewest_looks(("and", ("or", A, B), C), never), (ALL, [1, 0]))
        self.assertEqual(fewest_looks(("and", C, ("or", A, B)), never), (ALL, [0, 0]))

    def test_turns_count_as_the_pairs_stand_in_what_is_handed_in(self):
        condition = ("and", ("or", A, B), ("or", C, D))
        chances = chances_of(a=10, b=20, c=60, d=5)
        self.assertEqual(fewest_looks(condition, chances)[1], [0, 1, 0])
        chances = chances_of(a=60, b=70, c=20, d=10)
        self.assertEqual(fewest_looks(condition, chances)[1], [1, 1, 0])

    def test_against_all_turns(self):
        for condition in FEW_PAIRS:
            for chances in CHANCES:
                self.check(condition, chances)

    def test_small_ones_against_all_turns(self):
        for place, condition in enumerate(small_conditions()):
            self.check(condition, CHANCES[place % len(CHANCES)])

    def test_kinds(self):
        for condition in FEW_PAIRS:
            told = fewest_looks(condition, EVEN)
            self.assertIs(type(told), tuple)
            self.assertEqual([type(part) for part in told], [int, list])
            self.assertTrue(all(type(turn) is int for turn in told[1]))


class FewestJumps(unittest.TestCase):
    def check(self, condition, chances):
        best = None
        for turns in all_turns(condition):
            for first in (0, 1):
                many = jumps(turned(condition, turns), first, chances)
                if best is None or many < best[0]:
                    best = (many, turns, first)
        if fewest_jumps(condition, chances) != best:
            self.fail(f"{condition} with {chances} is not {best}")

    def test_no_pair(self):
        self.assertEqual(fewest_jumps(A, chances_of(a=10)), (10 * 100 ** 7, [], 0))
        self.assertEqual(fewest_jumps(A, chances_of(a=90)), (10 * 100 ** 7, [], 1))
        self.assertEqual(fewest_jumps(("not", A), chances_of(a=10)), (10 * 100 ** 7, [], 1))
        self.assertEqual(fewest_jumps(A, EVEN), (50 * 100 ** 7, [], 0))

    def test_one_pair(self):
        chances = chances_of(a=90, b=80)
        self.assertEqual(fewest_jumps(("and", A, B), chances), ((10 * 100 + 90 * 20) * 100 ** 6, [0], 1))
        self.assertEqual(fewest_jumps(("or", A, B), chances_of(a=20, b=10)), (28 * 100 ** 7, [0], 0))
        # Where the ends tell nothing apart, the turns do.
        chances = chances_of(a=10, b=50)
        self.assertEqual(fewest_jumps(("or", B, A), chances), ((50 * 100 + 50 * 10) * 100 ** 6, [0], 0))
        self.assertEqual(fewest_jumps(("and", A, B), chances), ((50 * 100 + 50 * 10) * 100 ** 6, [1], 0))

    def test_of_several_the_first_turns_then_first_0(self):
        self.assertEqual(fewest_jumps(("and", A, B), EVEN), (75 * 100 ** 7, [0], 0))
        self.assertEqual(fewest_jumps(("and", A, A), EVEN), (50 * 100 ** 7, [0], 1))
        never = (0,) * 8
        self.assertEqual(fewest_jumps(("or", A, B), never), (0, [0], 0))
        self.assertEqual(fewest_jumps(("and", A, B), never), (ALL, [0], 0))

    def test_the_first_turns_count_ahead_of_the_end(self):
        condition, chances = ("and", A, B), chances_of(a=50, b=70)
        least = 65 * 100 ** 7
        self.assertGreater(jumps(condition, 0, chances), least)
        self.assertEqual(jumps(condition, 1, chances), least)
        self.assertEqual(jumps(turned(condition, [1]), 0, chances), least)
        self.assertEqual(fewest_jumps(condition, chances), (least, [0], 1))

    def test_against_all_turns(self):
        for condition in FEW_PAIRS:
            for chances in CHANCES:
                self.check(condition, chances)

    def test_small_ones_against_all_turns(self):
        for place, condition in enumerate(small_conditions()):
            self.check(condition, CHANCES[place % len(CHANCES)])

    def test_kinds(self):
        for condition in FEW_PAIRS:
            told = fewest_jumps(condition, EVEN)
            self.assertIs(type(told), tuple)
            self.assertEqual([type(part) for part in told], [int, list, int])
            self.assertTrue(all(type(turn) is int for turn in told[1]))


class Untouched(unittest.TestCase):
    def test_a_told_list_may_be_changed(self):
        for fewest in (fewest_looks, fewest_jumps):
            for condition in FEW_PAIRS:
                told = fewest(condition, CHANCES[4])
                before = (told[0], list(told[1]), *told[2:])
                told[1].append(1)
                told[1].reverse()
                self.assertEqual(fewest(condition, CHANCES[4]), before)


if __name__ == "__main__":
    unittest.main()
