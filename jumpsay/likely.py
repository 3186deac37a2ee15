"""How many looks and jumps conditions need by likely worths, and which turns need the fewest."""

from jumpsay.codes import check_first, code_of, outcome_of_rows
from jumpsay.conditions import THINGS, all_bits, are_numbers_up_to, check_condition, count_pairs, with_turns
from jumpsay.errors import BadChances, TooMany
from jumpsay.meanings import outcome

HUNDRED = 100
MOST_PAIRS = 6


def looks(condition, chances):
    """How many looks a condition does in all the times that these chances tell."""
    check_condition(condition)
    check_chances(chances)
    return looks_in_all(condition, likely_worths(chances))


def jumps(condition, first, chances):
    """How many jumps the code of a condition does in all the times that these chances tell."""
    check_condition(condition)
    check_first(first)
    check_chances(chances)
    return jumps_in_all(condition, first, likely_worths(chances))


def fewest_looks(condition, chances):
    """The fewest looks over all turns of a condition, and the first turns that need no more."""
    check_for_fewest(condition, chances)
    likely = likely_worths(chances)
    # The least of these tuples is the one to be told: of like numbers the first turns count.
    return min([
        (looks_in_all(with_turns(condition, turns), likely), turns)
        for turns in all_turns(condition)
    ])


def fewest_jumps(condition, chances):
    """The fewest jumps over all turns and first ends, and the first turns and end that need no more."""
    check_for_fewest(condition, chances)
    likely = likely_worths(chances)
    # As above: of like numbers the first turns count, of these too the end 0.
    return min([
        (jumps_in_all(with_turns(condition, turns), first, likely), turns, first)
        for turns in all_turns(condition)
        for first in (0, 1)
    ])


def check_chances(chances):
    """Refuses what is not eight numbers from 0 to 100."""
    if not are_numbers_up_to(chances, THINGS, HUNDRED):
        raise BadChances("chances are eight numbers, each of them from 0 to 100")


def check_for_fewest(condition, chances):
    """Refuses what no fewest can be told of, a condition with too many pairs last."""
    check_condition(condition)
    check_chances(chances)
    if count_pairs(condition) > MOST_PAIRS:
        raise TooMany("the fewest are told of a condition with at most six pairs")


def all_turns(condition):
    """All turns of a condition, as lists ascend."""
    return [list(bits) for bits in all_bits(count_pairs(condition))]


def likely_worths(chances):
    """All worths, each with how many times in 100 ** 8 it comes."""
    return [(worths, times_of(worths, chances)) for worths in all_bits(THINGS)]


def times_of(worths, chances):
    """How many times in 100 ** 8 these worths come."""
    times = 1
    for worth, chance in zip(worths, chances):
        times *= chance if worth == 1 else HUNDRED - chance
    return times


def looks_in_all(condition, likely):
    """As `looks`, of worths with their times."""
    return sum([len(outcome(condition, worths)[1]) * times for worths, times in likely])


def jumps_in_all(condition, first, likely):
    """As `jumps`, of worths with their times."""
    rows = code_of(condition, first)
    return sum([outcome_of_rows(rows, worths)[2] * times for worths, times in likely])
