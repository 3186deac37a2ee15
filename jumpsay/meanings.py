"""What a condition comes to, and what it looks at on the way."""

from jumpsay.conditions import THINGS, are_bits, check_condition
from jumpsay.errors import BadWorths

# The worth of the first side with which the second one is done too.
GOES_ON = {"and": 1, "or": 0}


def meant(condition, worths):
    """What a condition comes to with these worths, and the things looked at, in turn."""
    check_condition(condition)
    check_worths(worths)
    return outcome(condition, worths)


def check_worths(worths):
    """Refuses what is not eight numbers 0 or 1."""
    if not are_bits(worths, THINGS):
        raise BadWorths("worths are eight numbers, each of them 0 or 1")


def outcome(condition, worths):
    """As `meant`, of a condition and worths that are known to be such."""
    word = condition[0]
    if word == "look":
        thing = condition[1]
        return worths[thing], [thing]
    worth, looks = outcome(condition[1], worths)
    if word == "not":
        return 1 - worth, looks
    if worth != GOES_ON[word]:
        return worth, looks
    second, more = outcome(condition[2], worths)
    return second, looks + more
