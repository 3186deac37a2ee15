"""Whether two conditions are alike, or the first worths that part them."""

from jumpsay.conditions import THINGS, all_bits, check_condition
from jumpsay.meanings import outcome


def parting(one, other):
    """The first worths of which `meant` tells unlike things, and these; None if there are none."""
    check_condition(one)
    check_condition(other)
    for worths in all_bits(THINGS):
        told_of_one = outcome(one, worths)
        told_of_other = outcome(other, worths)
        if told_of_one != told_of_other:
            return worths, told_of_one, told_of_other
    return None


def alike(one, other):
    """Whether two conditions come to the same and look at the same, in turn, for all worths."""
    return parting(one, other) is None


def like_worth(one, other):
    """Whether two conditions come to the same for all worths, whatever is looked at."""
    check_condition(one)
    check_condition(other)
    return all([outcome(one, worths)[0] == outcome(other, worths)[0] for worths in all_bits(THINGS)])
