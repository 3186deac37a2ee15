"""What is promised over the whole program (point 1), its interface, and the order of its refusals."""

import ast
import copy
import importlib
import inspect
import pathlib
import unittest

import jumpsay
from jumpsay import errors
from jumpsay.codes import coded, run
from jumpsay.conditions import turned
from jumpsay.likely import fewest_jumps, fewest_looks, jumps, looks
from jumpsay.likeness import alike, like_worth, parting
from jumpsay.meanings import meant
from jumpsay.texts import read, written
from tests.samples import (
    A, ALL_WORTHS, B, BAD_CHANCES, BAD_WORTHS, CHANCES, FEW_PAIRS, GOOD_CONDITIONS, HUGE, MORE_PAIRS, balanced, chain,
    nots, pairs_in, refusal,
)

ODD = (0, 1, 1, 0, 1, 0, 0, 1)
EVEN = (50,) * 8

INTERFACE = {
    "conditions": {"turned": ["condition", "turns"]},
    "meanings": {"meant": ["condition", "worths"]},
    "codes": {"coded": ["condition", "first"], "run": ["rows", "worths"]},
    "likely": {
        "looks": ["condition", "chances"],
        "jumps": ["condition", "first", "chances"],
        "fewest_looks": ["condition", "chances"],
        "fewest_jumps": ["condition", "chances"],
    },
    "likeness": {
        "parting": ["one", "other"],
        "alike": ["one", "other"],
        "like_worth": ["one", "other"],
    },
    "texts": {"written": ["condition"], "read": ["text"]},
}

# For each function what it refuses, in the order in which it is handed in, too many pairs last.
GOOD_HANDED = {
    turned: [("and", A, B), [1]],
    meant: [("and", A, B), ODD],
    coded: [("and", A, B), 1],
    run: [[("look", 0, 0, 1), ("end", 1), ("end", 0)], ODD],
    looks: [("and", A, B), EVEN],
    jumps: [("and", A, B), 1, EVEN],
    fewest_looks: [("and", A, B), EVEN],
    fewest_jumps: [("and", A, B), EVEN],
    parting: [("and", A, B), A],
    alike: [("and", A, B), A],
    like_worth: [("and", A, B), A],
    written: [("and", A, B)],
    read: ["a&b"],
}
BAD_HANDED = {
    turned: [(("look", 8), errors.BadCondition), ([2], errors.BadTurns)],
    meant: [(("look", 8), errors.BadCondition), ((2,) * 8, errors.BadWorths)],
    coded: [(("look", 8), errors.BadCondition), (2, errors.BadEnd)],
    run: [([("end", 1)], errors.BadCode), ((2,) * 8, errors.BadWorths)],
    looks: [(("look", 8), errors.BadCondition), ((101,) * 8, errors.BadChances)],
    jumps: [(("look", 8), errors.BadCondition), (2, errors.BadEnd), ((101,) * 8, errors.BadChances)],
    fewest_looks: [(("look", 8), errors.BadCondition), ((101,) * 8, errors.BadChances)],
    fewest_jumps: [(("look", 8), errors.BadCondition), ((101,) * 8, errors.BadChances)],
    parting: [(("look", 8), errors.BadCondition), ((), errors.BadCondition)],
    alike: [(("look", 8), errors.BadCondition), ((), errors.BadCondition)],
    like_worth: [(("look", 8), errors.BadCondition), ((), errors.BadCondition)],
    written: [(("look", 8), errors.BadCondition)],
    read: [("a&", errors.BadText)],
}


def calls_about(condition):
    """All that can be asked of a condition, as functions with what they are handed."""
    many = pairs_in(condition)
    told = [(turned, condition, [turn] * many) for turn in (0, 1)]
    told += [(meant, condition, worths) for worths in ALL_WORTHS[::51]]
    told += [(coded, condition, first) for first in (0, 1)]
    told += [(run, coded(condition, first), worths) for first in (0, 1) for worths in ALL_WORTHS[::51]]
    told += [(written, condition), (read, written(condition))]
    told += [(call, condition, other) for call in (parting, alike, like_worth) for other in (A, balanced(4), condition)]
    for chances in CHANCES[3:5]:
        told += [(looks, condition, chances)] + [(jumps, condition, first, chances) for first in (0, 1)]
        if many <= 6:
            told += [(fewest_looks, condition, chances), (fewest_jumps, condition, chances)]
    return told


def spoil(value):
    """Changes all lists in what is told, inner ones too."""
    if isinstance(value, (list, tuple)):
        for part in value:
            spoil(part)
    if isinstance(value, list):
        value.reverse()
        value.append("spoilt")


def lists_in(value):
    """All lists in what is told or handed in."""
    told = [value] if isinstance(value, list) else []
    if isinstance(value, (list, tuple)):
        for part in value:
            told += lists_in(part)
    return told


class Whole(unittest.TestCase):
    """Point 1."""

    def test_the_same_is_told_again_though_what_was_told_is_changed(self):
        conditions = FEW_PAIRS[:6] + [balanced(7), balanced(12), nots(A, 10)]
        first = {place: [call(*handed) for call, *handed in calls_about(condition)]
                 for place, condition in enumerate(conditions)}
        kept = copy.deepcopy(first)
        for told in first.values():
            spoil(told)
        for place, condition in reversed(list(enumerate(conditions))):
            self.assertEqual([call(*handed) for call, *handed in calls_about(condition)], kept[place])

    def test_one_condition_then_another_then_the_first(self):
        one, other = ("or", ("and", A, B), ("not", A)), balanced(7)
        told = [call(*handed) for call, *handed in calls_about(one)]
        kept = copy.deepcopy(told)
        spoil(told)
        spoil([call(*handed) for call, *handed in calls_about(other)])
        self.assertEqual([call(*handed) for call, *handed in calls_about(one)], kept)

    def test_what_is_handed_in_is_the_same_afterwards(self):
        for condition in FEW_PAIRS[:8] + GOOD_CONDITIONS[-8:]:
            for call, *handed in calls_about(condition):
                before = copy.deepcopy(handed)
                spoil(call(*handed))
                self.assertEqual(handed, before)

    def test_what_is_handed_in_is_the_same_after_a_refusal(self):
        for call, bad in BAD_HANDED.items():
            handed = [value for value, _ in bad]
            before = copy.deepcopy(handed)
            self.assertIsNotNone(refusal(call, *handed))
            self.assertEqual(handed, before)

    def test_no_list_is_told_twice_or_handed_in(self):
        for condition in FEW_PAIRS[:8] + GOOD_CONDITIONS[-8:]:
            for call, *handed in calls_about(condition):
                told = [call(*handed), call(*handed)]
                lists = lists_in(told)[1:] + lists_in(handed)[1:]
                self.assertEqual(len(lists), len({id(one) for one in lists}))

    def test_what_is_handed_in_may_be_changed_later(self):
        turns, rows = [1, 0], coded(("and", A, B), 1)
        told = [turned(("and", A, ("or", A, B)), turns), run(rows, ODD)]
        kept = copy.deepcopy(told)
        spoil(turns)
        spoil(rows)
        self.assertEqual(told, kept)

    def test_nothing_but_the_program_itself_is_used(self):
        folder = pathlib.Path(jumpsay.__file__).parent
        files = sorted(folder.glob("*.py"))
        self.assertEqual([file.stem for file in files], sorted(["__init__", "errors", *INTERFACE]))
        for file in files:
            tree = ast.parse(file.read_text(encoding="utf-8"))
            for node in ast.walk(tree):
                self.assertNotIsInstance(node, (ast.Import, ast.Global, ast.Nonlocal), file.name)
                if isinstance(node, ast.ImportFrom):
                    self.assertTrue(node.module.startswith("jumpsay."), file.name)
                if isinstance(node, ast.Name):
                    self.assertNotIn(node.id, ("open", "input", "print", "hash", "id", "eval", "exec"), file.name)


class Interface(unittest.TestCase):
    def test_each_function_stands_where_it_is_listed(self):
        for file, functions in INTERFACE.items():
            module = importlib.import_module(f"jumpsay.{file}")
            for name, arguments in functions.items():
                with self.subTest(file=file, name=name):
                    function = getattr(module, name)
                    self.assertEqual(function.__module__, f"jumpsay.{file}")
                    self.assertEqual(list(inspect.signature(function).parameters), arguments)

    def test_arguments_by_name(self):
        for call, handed in GOOD_HANDED.items():
            names = list(inspect.signature(call).parameters)
            self.assertEqual(call(**dict(zip(names, handed))), call(*handed))


class Refusals(unittest.TestCase):
    def test_what_is_good_is_not_refused(self):
        for call, handed in GOOD_HANDED.items():
            self.assertIsNone(refusal(call, *handed))

    def test_each_by_its_own_class(self):
        for call, bad in BAD_HANDED.items():
            for place, (value, kind) in enumerate(bad):
                with self.subTest(call=call, place=place):
                    handed = list(GOOD_HANDED[call])
                    handed[place] = value
                    with self.assertRaises(errors.JumpError) as caught:
                        call(*handed)
                    self.assertIs(type(caught.exception), kind)
                    self.assertIsInstance(caught.exception, ValueError)

    def test_of_several_what_is_handed_in_first(self):
        for call, bad in BAD_HANDED.items():
            for place in range(len(bad)):
                with self.subTest(call=call, place=place):
                    handed = GOOD_HANDED[call][:place] + [value for value, _ in bad[place:]]
                    self.assertIs(refusal(call, *handed)[0], bad[place][1])

    def test_too_many_last(self):
        for call in (fewest_looks, fewest_jumps):
            for condition in MORE_PAIRS:
                self.assertEqual(refusal(call, condition, EVEN), (errors.TooMany, None))
                self.assertEqual(refusal(call, condition, BAD_CHANCES[2]), (errors.BadChances, None))
            self.assertEqual(refusal(call, balanced(13), BAD_CHANCES[2]), (errors.BadCondition, None))
            self.assertEqual(refusal(call, chain("and", 12), EVEN), (errors.BadCondition, None))

    def test_places(self):
        for rows, place in (([], 0), ([("look", 0, 0, 40)] * 39 + [("end", 1), ("end", 0)], 40), ([("end", 1)] * 2, 1)):
            self.assertEqual(refusal(run, rows, BAD_WORTHS[0]), (errors.BadCode, place))
        for text, place in (("", 0), ("a&", 2), ("a)", 1)):
            self.assertEqual(refusal(read, text), (errors.BadText, place))

    def test_large_numbers(self):
        self.assertIs(refusal(coded, ("look", HUGE), HUGE)[0], errors.BadCondition)
        self.assertIs(refusal(jumps, A, -HUGE, EVEN)[0], errors.BadEnd)
        self.assertIs(refusal(looks, A, (HUGE,) * 8)[0], errors.BadChances)


if __name__ == "__main__":
    unittest.main()
