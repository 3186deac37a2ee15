"""What a code is and how it runs (points 5 and 6), and the codes of conditions (points 7 and 8)."""

import copy
import itertools
import random
import re
import unittest

from jumpsay.codes import coded, run
from jumpsay.errors import BadCode, BadCondition, BadEnd, BadWorths
from jumpsay.meanings import meant
from tests.samples import (
    A, ALL_WORTHS, B, BAD_WORTHS, C, D, E, GOOD_CONDITIONS, H, HUGE, as_python, bad_conditions, balanced, chain, nots,
    refusal, small_conditions, things_in,
)

ZEROS = (0,) * 8
ONES = (1,) * 8
ENDS = [[("end", 0), ("end", 1)], [("end", 1), ("end", 0)]]


def straight(many, ends):
    """A code of so many rows: looks at one thing after the other, each of which may jump to the last row."""
    return [("look", place % 8, place % 2, many - 1) for place in range(many - 2)] + ends


def made(source):
    """A code made of what this source of numbers tells, the same ones each time."""
    many = source.randint(2, 40)
    rows = [
        ("look", source.randrange(8), source.randrange(2), source.randint(place + 1, many - 1))
        for place in range(many - 2)
    ]
    return rows + source.choice(ENDS)


def small_codes():
    """All codes of at most two looks at two things."""
    told = []
    for ends in ENDS:
        told.append(list(ends))
        told += [[look, *ends] for look in looks_at(0, 2)]
        told += [[*pair, *ends] for pair in itertools.product(looks_at(0, 3), looks_at(1, 3))]
    return told


def looks_at(place, last):
    """The looks that may stand at a place."""
    return [("look", *rest) for rest in itertools.product((0, 7), (0, 1), range(place + 1, last + 1))]


def followed(rows, worths, at=0):
    """What run must tell, from the row `at` on."""
    if rows[at][0] == "end":
        return rows[at][1], [], 0
    thing, when, to = rows[at][1:]
    jump = worths[thing] == when
    worth, looks, jumps = followed(rows, worths, to if jump else at + 1)
    return worth, [thing] + looks, jumps + int(jump)


def bad_looks(place, last):
    """Rows that cannot stand at a place where a look must."""
    good = ("look", 3, 1, last)
    told = [(), ("look",), good[:2], good[:3], good + (0,), good + good, ("look", "look", 3, 1, last)]
    told += [("end", 0), ("end", 1), ("end", 1, 1, last), ("end",)]
    told += [(word, 3, 1, last) for word in ("jump", "Look", "LOOK", "looks", "", " look", 0, 1, HUGE)]
    told += [("look", thing, 1, last) for thing in (-1, 8, 9, HUGE, -HUGE, "a", "0", "")]
    told += [("look", 3, when, last) for when in (2, -1, HUGE, -HUGE, "1", "")]
    told += [("look", 3, 1, to) for to in range(-2, place + 1)]
    told += [("look", 3, 0, to) for to in (last + 1, last + 2, last + 40, HUGE, -HUGE, "1", "end", "")]
    return told + [(3, 1, last, "look"), ("look", 3, last, 1) if last > 1 else ()]


def bad_ends(last):
    """Rows that cannot stand where an end must."""
    told = [(), ("end",), ("end", 0, 0), ("end", 1, 0), ("end", "end", 1), (0, "end"), ("end", "1"), ("end", "")]
    told += [("end", worth) for worth in (2, -1, HUGE, -HUGE)]
    told += [(word, 1) for word in ("End", "END", "ends", "", "look", 0, 1)]
    return told + [("look", 0, 0, last), ("look", 0, 0, last + 1), ("look", 7, 1, 1), ("end", 0, 0, last)]


class Codes(unittest.TestCase):
    """Point 5."""

    def check_refused(self, rows, place):
        before = copy.deepcopy(rows)
        for worths in (ZEROS, ONES):
            if refusal(run, rows, worths) != (BadCode, place):
                self.fail(f"{rows} is not refused with {place}")
        self.assertEqual(rows, before)

    def test_how_many_rows(self):
        for many in range(2, 41):
            for ends in ENDS:
                rows = straight(many, ends)
                for worths in (ZEROS, ONES, (0, 1) * 4, (1, 0) * 4):
                    self.assertEqual(run(rows, worths), followed(rows, worths))

    def test_two_rows(self):
        self.assertEqual(run([("end", 0), ("end", 1)], ONES), (0, [], 0))
        self.assertEqual(run([("end", 1), ("end", 0)], ZEROS), (1, [], 0))

    def test_forty_rows(self):
        rows = [("look", 5, 1, 39)] * 38 + [("end", 1), ("end", 0)]
        self.assertEqual(run(rows, ZEROS), (1, [5] * 38, 0))
        self.assertEqual(run(rows, ONES), (0, [5], 1))

    def test_no_row_and_one(self):
        self.check_refused([], 0)
        for row in [("end", 0), ("end", 1), ("look", 0, 0, 1), ("look", 0, 0, 0), (), ("look",)]:
            self.check_refused([row], 0)

    def test_more_than_forty_rows_that_could_be(self):
        for many in (41, 42, 43, 80, 200):
            for ends in ENDS:
                self.check_refused(straight(many, ends), 40)
        # A row that is jumped to need not be one of the first forty.
        self.check_refused([("look", 0, 1, 40)] * 39 + ENDS[1], 40)
        self.check_refused([("look", 0, 1, 41)] * 41 + ENDS[1], 40)

    def test_of_more_than_forty_rows_the_first_too_many_can_not_be_however_it_is(self):
        for many in (41, 42, 43, 80):
            for row in [("end", 0), ("end", 1)] + bad_ends(many - 1) + bad_looks(40, many - 1):
                rows = straight(many, ENDS[1])
                rows[40] = row
                self.check_refused(rows, 40)
                rows[41:] = [row] * (many - 41)
                self.check_refused(rows, 40)

    def test_of_more_than_forty_rows_an_earlier_one_that_can_not_be_counts(self):
        for many in (41, 42, 43, 80):
            for place in range(min(40, many - 2)):
                for row in bad_looks(place, many - 1):
                    rows = straight(many, ENDS[place % 2])
                    rows[place] = row
                    self.check_refused(rows, place)
            self.check_refused([("end", 1)] * many, 0)
            self.check_refused([()] * many, 0)

    def test_of_forty_one_rows_the_last_two_are_the_ends(self):
        for row in bad_ends(40) + [("look", 0, 1, 40)]:
            rows = straight(41, ENDS[0])
            rows[39] = row
            self.check_refused(rows, 39)
        self.check_refused(straight(41, [("end", 1)] * 2), 40)
        # In longer lists row 39 is none of the last two, and so no end.
        for many in (42, 43, 80):
            for worth in (0, 1):
                rows = straight(many, ENDS[0])
                rows[39] = ("end", worth)
                self.check_refused(rows, 39)

    def test_of_more_than_forty_rows_the_first_of_several_counts(self):
        self.check_refused([("look", 0, 2, 39)] + [("look", 0, 1, 40)] * 38 + ENDS[1], 0)
        rows = [("look", 1, 0, 39)] * 34 + [("look", 0, 2, 39)] + [("look", 6, 1, 40)] * 4 + ENDS[1]
        self.check_refused(rows, 34)
        self.check_refused([("look", 0, 1, 40)] * 40 + [("end", 0)], 39)
        for one, other in itertools.combinations((0, 1, 20, 37, 38, 39, 40, 41), 2):
            rows = straight(44, ENDS[0])
            rows[one] = rows[other] = ("look", 0, 0, one)
            self.check_refused(rows, one)

    def test_each_row_that_may_not_be_a_look(self):
        for many in (3, 4, 5, 9, 40):
            for place in range(many - 2):
                for row in bad_looks(place, many - 1):
                    rows = straight(many, ENDS[place % 2])
                    rows[place] = row
                    self.check_refused(rows, place)

    def test_to_is_the_number_of_a_row_behind(self):
        def with_to(to):
            return [("look", 0, 0, 1), ("look", 0, 0, to), ("look", 0, 0, 3), ("end", 1), ("end", 0)]

        for to in (2, 3, 4):
            self.assertIsNone(refusal(run, with_to(to), ZEROS))
        for to in (-1, 0, 1, 5, 6):
            self.check_refused(with_to(to), 1)

    def test_each_row_that_may_not_be_an_end(self):
        for many in (2, 3, 4, 9, 40):
            for ends in ENDS:
                for place in (many - 2, many - 1):
                    for row in bad_ends(many - 1):
                        rows = straight(many, ends)
                        rows[place] = row
                        self.check_refused(rows, place)

    def test_ends_alike(self):
        for many in (2, 3, 4, 9, 40):
            for worth in (0, 1):
                self.check_refused(straight(many, [("end", worth)] * 2), many - 1)

    def test_an_end_ahead_of_the_ends(self):
        self.check_refused([("end", 0), ("end", 0), ("end", 1)], 0)
        self.check_refused([("look", 0, 0, 2), ("end", 0), ("end", 0), ("end", 1)], 1)

    def test_looks_among_the_last_two(self):
        self.check_refused([("look", 0, 0, 1), ("look", 0, 0, 2)], 0)
        self.check_refused([("look", 0, 0, 1), ("end", 0)], 0)
        self.check_refused([("end", 1), ("look", 0, 0, 2)], 1)
        self.check_refused([("look", 0, 0, 1), ("look", 0, 0, 2), ("end", 1)], 1)
        self.check_refused([("look", 0, 0, 1), ("look", 0, 0, 2), ("look", 0, 0, 3)], 1)

    def test_of_several_the_first_counts(self):
        bad = [("look", 8, 0, 7), (), ("look", 0, 2, 7), ("end", 1), ("look", 0, 0, 8), ("jump", 0, 0, 7)]
        for one, other in itertools.combinations(range(8), 2):
            for wrong in bad:
                rows = straight(8, ENDS[0])
                rows[one] = ("look", 0, 0, one)
                rows[other] = wrong
                self.check_refused(rows, one)
        self.check_refused([("look", 0, 0, 1)] * 2 + [("end", 1)] * 2, 1)
        self.check_refused([("look", 9, 0, 1), ("end", 1), ("end", 1)], 0)

    def test_bad_rows_that_are_not_come_to(self):
        self.check_refused([("look", 0, 0, 3), ("look", 0, 0, 9), ("look", 0, 0, 4), ("end", 1), ("end", 0)], 1)

    def test_true_and_false_are_no_numbers(self):
        self.check_refused([("look", False, 0, 1), ("end", 1), ("end", 0)], 0)
        self.check_refused([("look", 0, True, 1), ("end", 1), ("end", 0)], 0)
        self.check_refused([("look", 0, 0, True), ("end", 1), ("end", 0)], 0)
        self.check_refused([("end", True), ("end", 0)], 0)
        self.check_refused([("end", 1), ("end", False)], 1)

    def test_bad_worths(self):
        for rows in (ENDS[0], straight(3, ENDS[1]), straight(40, ENDS[0])):
            for worths in BAD_WORTHS:
                self.assertEqual(refusal(run, rows, worths), (BadWorths, None))

    def test_a_bad_code_is_refused_ahead_of_bad_worths(self):
        for worths in BAD_WORTHS:
            self.assertEqual(refusal(run, [], worths), (BadCode, 0))
            self.assertEqual(refusal(run, straight(41, ENDS[0]), worths), (BadCode, 40))
            self.assertEqual(refusal(run, [("end", 1)] * 41, worths), (BadCode, 0))
            self.assertEqual(refusal(run, [("end", 1), ("end", 1)], worths), (BadCode, 1))
            self.assertEqual(refusal(run, [("look", 0, 0, 0)] + ENDS[0], worths), (BadCode, 0))


class Run(unittest.TestCase):
    """Point 6."""

    def check_all_worths(self, rows):
        before = copy.deepcopy(rows)
        for worths in ALL_WORTHS:
            if run(rows, worths) != followed(rows, worths):
                self.fail(f"{rows} with {worths} is not {followed(rows, worths)}")
        self.assertEqual(rows, before)

    def test_it_jumps_if_the_worth_is_when(self):
        for thing in range(8):
            for when in (0, 1):
                rows = [("look", thing, when, 2), ("end", 0), ("end", 1)]
                for worths in ALL_WORTHS:
                    jump = int(worths[thing] == when)
                    self.assertEqual(run(rows, worths), (jump, [thing], jump))

    def test_a_jump_to_the_next_row_counts(self):
        rows = [("look", 2, 1, 1), ("end", 0), ("end", 1)]
        self.assertEqual(run(rows, ONES), (0, [2], 1))
        self.assertEqual(run(rows, ZEROS), (0, [2], 0))
        rows = [("look", place, 1, place + 1) for place in range(8)] + [("end", 1), ("end", 0)]
        self.assertEqual(run(rows, ONES), (1, list(range(8)), 8))
        self.assertEqual(run(rows, ZEROS), (1, list(range(8)), 0))
        self.assertEqual(run(rows, (0, 1, 1, 0, 0, 0, 1, 0)), (1, list(range(8)), 3))

    def test_some_by_hand(self):
        rows = [("look", 4, 1, 2), ("look", 0, 0, 4), ("look", 4, 0, 3), ("look", 7, 0, 5), ("end", 1), ("end", 0)]
        self.assertEqual(run(rows, ZEROS), (1, [4, 0], 1))
        self.assertEqual(run(rows, ONES), (1, [4, 4, 7], 1))
        self.assertEqual(run(rows, (1, 0, 0, 0, 0, 0, 0, 0)), (0, [4, 0, 4, 7], 2))
        self.assertEqual(run(rows, (1, 0, 0, 0, 0, 0, 0, 1)), (1, [4, 0, 4, 7], 1))
        self.assertEqual(run(rows, (0, 0, 0, 0, 1, 0, 0, 0)), (0, [4, 4, 7], 2))

    def test_small_ones_over_all_worths(self):
        for rows in small_codes():
            self.check_all_worths(rows)

    def test_large_ones_over_all_worths(self):
        source = random.Random(7)
        for _ in range(60):
            self.check_all_worths(made(source))

    def test_codes_of_conditions_over_all_worths(self):
        for condition in GOOD_CONDITIONS:
            for first in (0, 1):
                self.check_all_worths(coded(condition, first))

    def test_kinds(self):
        for rows in (ENDS[0], straight(9, ENDS[1]), coded(balanced(12), 1)):
            for worths in (ZEROS, ONES):
                told = run(rows, worths)
                self.assertIs(type(told), tuple)
                self.assertEqual([type(part) for part in told], [int, list, int])
                self.assertTrue(all(type(thing) is int for thing in told[1]))

    def test_rows_may_be_changed_later(self):
        rows = [("look", 0, 1, 2), ("end", 0), ("end", 1)]
        told = run(rows, ONES)
        rows[0] = ("look", 5, 0, 2)
        self.assertEqual(told, (1, [0], 1))
        self.assertEqual(run(rows, ONES), (0, [5], 0))
        rows.clear()
        self.assertEqual(refusal(run, rows, ONES), (BadCode, 0))


def rows_due(condition, first):
    """The rows that coded must tell: what is due behind each look is seen on all ways through the condition."""
    things = things_in(condition)
    many = len(things)
    numbers = itertools.count()
    done = compile(re.sub(r"look\(\d\)", lambda found: f"look({next(numbers)})", as_python(condition)), "due", "eval")
    due = {}
    for answers in itertools.product((0, 1), repeat=many):
        way = []

        def look(number):
            way.append(number)
            return answers[number]

        worth = int(eval(done, {"look": look}))
        for number, behind in zip(way, way[1:] + [many if worth == first else many + 1]):
            due[number, answers[number]] = behind
    rows = []
    for number, thing in enumerate(things):
        (when,) = [worth for worth in (0, 1) if due[number, worth] != number + 1]
        rows.append(("look", thing, when, due[number, when]))
    return rows + [("end", first), ("end", 1 - first)]


class Coded(unittest.TestCase):
    """Point 7."""

    def test_look(self):
        for thing in range(8):
            look = ("look", thing)
            self.assertEqual(coded(look, 1), [("look", thing, 0, 2), ("end", 1), ("end", 0)])
            self.assertEqual(coded(look, 0), [("look", thing, 1, 2), ("end", 0), ("end", 1)])

    def test_not(self):
        self.assertEqual(coded(("not", H), 1), [("look", 7, 1, 2), ("end", 1), ("end", 0)])
        self.assertEqual(coded(("not", H), 0), [("look", 7, 0, 2), ("end", 0), ("end", 1)])
        self.assertEqual(coded(nots(H, 2), 1), coded(H, 1))
        self.assertEqual(coded(nots(H, 9), 0), coded(("not", H), 0))

    def test_and(self):
        both = ("and", A, B)
        self.assertEqual(coded(both, 1), [("look", 0, 0, 3), ("look", 1, 0, 3), ("end", 1), ("end", 0)])
        self.assertEqual(coded(both, 0), [("look", 0, 0, 2), ("look", 1, 1, 3), ("end", 0), ("end", 1)])

    def test_or(self):
        either = ("or", A, B)
        self.assertEqual(coded(either, 1), [("look", 0, 1, 2), ("look", 1, 0, 3), ("end", 1), ("end", 0)])
        self.assertEqual(coded(either, 0), [("look", 0, 1, 3), ("look", 1, 1, 3), ("end", 0), ("end", 1)])

    def test_nots_about_ands_and_ors(self):
        self.assertEqual(
            coded(("not", ("and", A, B)), 1),
            [("look", 0, 0, 2), ("look", 1, 1, 3), ("end", 1), ("end", 0)],
        )
        self.assertEqual(
            coded(("not", ("or", A, ("not", B))), 0),
            [("look", 0, 1, 2), ("look", 1, 1, 3), ("end", 0), ("end", 1)],
        )
        self.assertEqual(
            coded(("or", ("not", ("and", A, B)), C), 1),
            [("look", 0, 0, 3), ("look", 1, 0, 3), ("look", 2, 0, 4), ("end", 1), ("end", 0)],
        )

    def test_nested(self):
        condition = ("or", ("and", A, ("or", B, ("not", C))), ("not", ("and", D, E)))
        looks = [("look", 0, 0, 3), ("look", 1, 1, 5), ("look", 2, 0, 5), ("look", 3, 0, 5), ("look", 4, 1, 6)]
        self.assertEqual(coded(condition, 1), looks + [("end", 1), ("end", 0)])
        looks = [("look", 0, 0, 3), ("look", 1, 1, 6), ("look", 2, 0, 6), ("look", 3, 0, 6), ("look", 4, 0, 6)]
        self.assertEqual(coded(condition, 0), looks + [("end", 0), ("end", 1)])

    def test_a_thing_looked_at_several_times_has_several_rows(self):
        self.assertEqual(
            coded(("or", A, ("and", A, A)), 1),
            [("look", 0, 1, 3), ("look", 0, 0, 4), ("look", 0, 0, 4), ("end", 1), ("end", 0)],
        )

    def test_against_what_is_due(self):
        for condition in small_conditions() + GOOD_CONDITIONS:
            for first in (0, 1):
                if coded(condition, first) != rows_due(condition, first):
                    self.fail(f"{condition} with {first} first is not {rows_due(condition, first)}")

    def test_kinds(self):
        for condition in GOOD_CONDITIONS:
            for first in (0, 1):
                told = coded(condition, first)
                self.assertIs(type(told), list)
                self.assertTrue(all(type(row) is tuple for row in told))
                self.assertTrue(all(type(part) is int for row in told for part in row[1:]))

    def test_bad_ends(self):
        for condition in GOOD_CONDITIONS:
            for first in (2, -1, 3, HUGE, -HUGE):
                self.assertEqual(refusal(coded, condition, first), (BadEnd, None))

    def test_true_and_false_are_no_ends(self):
        for first in (True, False):
            self.assertEqual(refusal(coded, A, first), (BadEnd, None))

    def test_a_bad_condition_is_refused_ahead_of_a_bad_end(self):
        for place, condition in enumerate(bad_conditions()):
            # By place: the deepest ones cannot be shown.
            with self.subTest(place=place):
                for first in (0, 1, 2, -1):
                    self.assertEqual(refusal(coded, condition, first), (BadCondition, None))


class SameAsMeant(unittest.TestCase):
    """Point 8."""

    def test_the_code_tells_what_meant_tells(self):
        for condition in small_conditions() + GOOD_CONDITIONS + [chain("and", 9), ("not", chain("or", 10))]:
            codes = [coded(condition, first) for first in (0, 1)]
            for worths in ALL_WORTHS:
                expected = meant(condition, worths)
                if any(run(rows, worths)[:2] != expected for rows in codes):
                    self.fail(f"the code of {condition} with {worths} does not tell {expected}")

    def test_no_row_jumps_to_the_next_one(self):
        for condition in small_conditions() + GOOD_CONDITIONS:
            for first in (0, 1):
                for place, row in enumerate(coded(condition, first)[:-2]):
                    self.assertGreater(row[3], place + 1)


if __name__ == "__main__":
    unittest.main()
