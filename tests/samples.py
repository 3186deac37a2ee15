"""Conditions, worths, chances, what is none of these, and small helpers, for the tests."""

import re
from itertools import product

from jumpsay.errors import JumpError

ALL_WORTHS = list(product((0, 1), repeat=8))
A, B, C, D, E, F, G, H = [("look", thing) for thing in range(8)]
HUGE = 10 ** 40 - 1


def refusal(call, *handed):
    """The very class of a refusal and its place, None where it has none; None if nothing is refused."""
    try:
        call(*handed)
    except JumpError as error:
        return type(error), getattr(error, "place", None)
    return None


def pairs_in(condition):
    """How many ands and ors are written in a condition."""
    return len(re.findall("'(?:and|or)'", repr(condition)))


def things_in(condition):
    """The things of all looks of a condition, as they are written."""
    return [int(thing) for thing in re.findall(r"'look', (\d)", repr(condition))]


def as_python(condition):
    """The condition in Python's own words, which do their second sides as point 3 says."""
    word = condition[0]
    if word == "look":
        return f"look({condition[1]})"
    if word == "not":
        return f"(not {as_python(condition[1])})"
    return f"({as_python(condition[1])} {word} {as_python(condition[2])})"


def nots(condition, many):
    """The condition within so many nots."""
    for _ in range(many):
        condition = ("not", condition)
    return condition


def chain(word, many):
    """So many looks, joined by one word from the left on."""
    condition = A
    for place in range(1, many):
        condition = (word, condition, ("look", place % 8))
    return condition


def balanced(many):
    """So many looks, joined by ands and ors as evenly as can be."""
    conditions = [("look", place % 8) for place in range(many)]
    words = ["and", "or"]
    while len(conditions) > 1:
        joined = [(words[place // 2 % 2], *conditions[place:place + 2])
                  for place in range(0, len(conditions) - 1, 2)]
        rest = conditions[len(joined) * 2:]
        conditions = joined + rest
    return conditions[0]


def within(condition, many):
    """The condition within so many others: nots, ands and ors by turns, on either side."""
    for step in range(many):
        condition = [
            ("not", condition),
            ("and", condition, B),
            ("or", C, condition),
            ("not", condition),
            ("and", D, condition),
            ("or", condition, E),
        ][step % 6]
    return condition


def grown(sides):
    """All that one not, and or or makes of these."""
    told = [("not", side) for side in sides]
    told += [(word, *pair) for word in ("and", "or") for pair in product(sides, repeat=2)]
    return told


def small_conditions():
    """Looks at two things, and all conditions of at most two nots, ands and ors in depth."""
    first = [A, H]
    second = first + grown(first)
    return first + grown(second)


GOOD_CONDITIONS = [
    A,
    H,
    ("not", H),
    ("and", A, A),
    ("or", H, A),
    chain("and", 11),
    chain("or", 11),
    balanced(12),
    ("not", balanced(12)),
    nots(A, 10),
    within(A, 10),
    within(H, 9),
    ("and", nots(A, 9), nots(B, 9)),
    ("or", nots(balanced(6), 6), nots(balanced(6), 6)),
]

# What is no condition by itself, wherever it stands.
BAD_TUPLES = [
    (),
    ("look",),
    ("not",),
    ("and",),
    ("or",),
    (0,),
    (A,),
    ("look", 0, 0),
    ("look", 0, A),
    ("not", A, A),
    ("and", A),
    ("or", A),
    ("and", A, A, A),
    ("or", A, A, A),
    ("xor", A, A),
    ("nand", A, A),
    ("end", 1),
    ("", 0),
    ("Look", 0),
    ("NOT", A),
    ("And", A, A),
    ("or ", A, A),
    ("&", A, A),
    (0, 0),
    (1, A),
    (2, A, A),
    (A, A),
    ((), 0),
    (("not",), A),
    (("and",), A, A),
    (A, "and", A),
    ("look", -1),
    ("look", 8),
    ("look", 9),
    ("look", HUGE),
    ("look", -HUGE),
    ("look", "a"),
    ("look", "0"),
    ("look", ""),
    ("look", ()),
    ("look", (0,)),
    ("look", A),
    ("not", 0),
    ("not", "look"),
    ("not", ""),
    ("not", ()),
    ("and", 0, A),
    ("and", A, 1),
    ("or", "a", A),
    ("or", A, "look"),
    ("and", (), A),
    ("or", A, ()),
    ("and", "look", 0),
]

# What is no condition for its looks or its depth.
TOO_LARGE = [
    balanced(13),
    balanced(14),
    balanced(64),
    ("not", balanced(13)),
    ("and", balanced(6), balanced(7)),
    ("or", A, balanced(12)),
    chain("and", 12),
    chain("or", 13),
    nots(A, 11),
    nots(A, 12),
    nots(A, 300),
    nots(A, 5000),
    within(A, 11),
    within(H, 12),
    ("or", A, nots(A, 10)),
    ("and", nots(A, 10), A),
    nots(("and", A, B), 10),
    nots(balanced(12), 8),
]


def bad_conditions():
    """All of these, at the top and deep within, on each side."""
    told = BAD_TUPLES + TOO_LARGE
    for bad in BAD_TUPLES:
        told = told + [
            ("not", bad),
            ("and", bad, A),
            ("and", A, bad),
            ("or", bad, A),
            ("or", A, bad),
            nots(bad, 10),
            within(bad, 8),
            within(bad, 10),
        ]
    return told


BAD_WORTHS = [
    (),
    (0,),
    (0,) * 7,
    (1,) * 7,
    (0,) * 9,
    (1,) * 9,
    (0,) * 16,
    (2,) + (0,) * 7,
    (0,) * 7 + (2,),
    (1,) * 7 + (-1,),
    (0, 0, 0, -1, 0, 0, 0, 0),
    (0, 0, 0, 0, HUGE, 0, 0, 0),
    (-HUGE, 1, 1, 1, 1, 1, 1, 1),
    (0, 1, 2, 3, 4, 5, 6, 7),
]

CHANCES = [
    (50,) * 8,
    (0,) * 8,
    (100,) * 8,
    (0, 100, 0, 100, 0, 100, 0, 100),
    (1, 2, 30, 40, 50, 60, 7, 8),
    (99, 98, 70, 60, 50, 40, 93, 92),
    (100, 13, 50, 0, 87, 87, 50, 1),
    (10, 20, 30, 40, 60, 70, 80, 90),
]

BAD_CHANCES = [
    (),
    (50,),
    (50,) * 7,
    (50,) * 9,
    (0,) * 7,
    (100,) * 9,
    (50,) * 16,
    (-1,) + (0,) * 7,
    (0,) * 7 + (-1,),
    (101,) + (100,) * 7,
    (100,) * 7 + (101,),
    (50, 50, 50, -1, 50, 50, 50, 50),
    (50, 50, 50, 50, 101, 50, 50, 50),
    (HUGE,) * 8,
    (0, -HUGE, 0, 0, 0, 0, 0, 0),
]

# Conditions of at most six pairs, with things that are looked at several times among them.
FEW_PAIRS = [
    A,
    H,
    ("not", C),
    ("and", A, B),
    ("or", G, F),
    ("or", A, A),
    ("and", A, ("not", A)),
    ("not", ("or", ("not", D), H)),
    ("and", ("not", ("or", C, A)), C),
    ("or", ("and", A, B), ("and", A, ("not", B))),
    ("and", ("not", ("or", ("and", A, B), ("not", ("or", C, D)))), ("or", E, ("and", F, G))),
    ("or", ("not", ("and", A, ("or", B, ("and", C, D)))), ("not", ("and", ("or", B, C), D))),
    ("and", nots(A, 9), nots(B, 9)),
    within(A, 7),
    balanced(5),
    balanced(6),
    balanced(7),
    chain("and", 7),
    chain("or", 7),
]

MORE_PAIRS = [balanced(8), balanced(12), chain("and", 8), chain("or", 9), ("not", balanced(8)), nots(balanced(11), 6)]
