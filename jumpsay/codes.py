"""Codes: rows of looks with jumps, made of conditions and run."""

from jumpsay.conditions import THINGS, check_condition, count_looks, is_number_up_to
from jumpsay.errors import BadCode, BadEnd
from jumpsay.meanings import GOES_ON, check_worths

MOST_ROWS = 40


def coded(condition, first):
    """The code of a condition, with the end whose worth is `first` ahead of the other one."""
    check_condition(condition)
    check_first(first)
    return code_of(condition, first)


def run(rows, worths):
    """What a code comes to with these worths, the things looked at, in turn, and how often it jumps."""
    check_code(rows)
    check_worths(worths)
    return outcome_of_rows(rows, worths)


def check_first(first):
    """Refuses what is the worth of no end."""
    if not is_number_up_to(first, 1):
        raise BadEnd("the first end is 1 or 0")


def code_of(condition, first):
    """As `coded`, of a condition and an end that are known to be such."""
    behind = count_looks(condition, 0)
    dues = [behind, behind]
    dues[1 - first] = behind + 1
    return rows_of(condition, 0, dues) + [("end", first), ("end", 1 - first)]


def rows_of(condition, start, dues):
    """The rows of a condition from row `start` on; `dues` are the rows due by worth 0 and by worth 1."""
    word = condition[0]
    if word == "look":
        return [look_row(condition[1], start, dues)]
    if word == "not":
        return rows_of(condition[1], start, [dues[1], dues[0]])
    middle = start + count_looks(condition[1], 0)
    first_dues = list(dues)
    first_dues[GOES_ON[word]] = middle
    return rows_of(condition[1], start, first_dues) + rows_of(condition[2], middle, dues)


def look_row(thing, place, dues):
    """The row at `place` that looks at a thing."""
    # One of the dues always is the next row: the last look of a first side is followed by
    # the second side, the last look of all by the first end. The other one is further down.
    when = 1 if dues[0] == place + 1 else 0
    return ("look", thing, when, dues[when])


def check_code(rows):
    """Refuses what is no code."""
    if len(rows) < 2:
        raise BadCode(0)
    for place in range(len(rows)):
        # The first row too many can't be, however it is; but one ahead of it that can't be counts first.
        if place == MOST_ROWS or not can_be(rows, place):
            raise BadCode(place)


def can_be(rows, place):
    """Whether the row at this place can be, if those ahead of it can."""
    last = len(rows) - 1
    row = rows[place]
    if place < last - 1:
        return is_look(row, place, last)
    if place < last:
        return is_end(row)
    return is_end(row) and row[1] != rows[last - 1][1]


def is_look(row, place, last):
    """Whether this can be a look at this place, where `last` is the number of the last row."""
    if len(row) != 4 or row[0] != "look":
        return False
    _, thing, when, to = row
    if not is_number_up_to(thing, THINGS - 1) or not is_number_up_to(when, 1):
        return False
    return is_number_up_to(to, last) and to > place


def is_end(row):
    """Whether this is an end."""
    return len(row) == 2 and row[0] == "end" and is_number_up_to(row[1], 1)


def outcome_of_rows(rows, worths):
    """As `run`, of rows and worths that are known to be such."""
    at = 0
    looks = []
    jumps = 0
    while rows[at][0] == "look":
        _, thing, when, to = rows[at]
        looks.append(thing)
        if worths[thing] == when:
            at = to
            jumps += 1
        else:
            at += 1
    return rows[at][1], looks, jumps
