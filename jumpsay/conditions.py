"""Conditions: what they are, which pairs they have, and these with sides exchanged."""

from jumpsay.errors import BadCondition, BadTurns

THINGS = 8
MOST_LOOKS = 12
MOST_AROUND = 10


def turned(condition, turns):
    """The condition with the sides exchanged of each pair whose turn is 1."""
    check_condition(condition)
    if not are_bits(turns, count_pairs(condition)):
        raise BadTurns("the turns are not a 0 or 1 for each pair")
    return with_turns(condition, turns)


def check_condition(condition):
    """Refuses what is no condition."""
    if count_looks(condition, 0) > MOST_LOOKS:
        raise BadCondition("a condition has at most twelve looks")


def count_looks(condition, around):
    """How many looks stand in what stands within so many conditions; refuses what is none."""
    # The depth comes first, so that no tuple, however deep, is followed further down.
    if around > MOST_AROUND:
        raise BadCondition("no condition stands within more than ten others")
    if not has_form(condition):
        raise BadCondition("a condition is a look, a not, an and, or an or")
    if condition[0] == "look":
        return 1
    return sum([count_looks(side, around + 1) for side in condition[1:]])


def has_form(condition):
    """Whether this is a tuple of a condition's form, whatever its sides are."""
    if not isinstance(condition, tuple) or len(condition) == 0:
        return False
    word = condition[0]
    if word == "look":
        return len(condition) == 2 and is_number_up_to(condition[1], THINGS - 1)
    if word == "not":
        return len(condition) == 2
    return word in ("and", "or") and len(condition) == 3


def is_number_up_to(value, most):
    """Whether this is a number from 0 to `most`."""
    # To Python True and False are integers, to the document they are no numbers.
    if isinstance(value, bool) or not isinstance(value, int):
        return False
    return 0 <= value <= most


def are_numbers_up_to(values, many, most):
    """Whether these are so many numbers, each of them from 0 to `most`."""
    return len(values) == many and all([is_number_up_to(value, most) for value in values])


def are_bits(values, many):
    """Whether these are so many numbers, each of them 0 or 1."""
    return are_numbers_up_to(values, many, 1)


def all_bits(many):
    """All tuples of so many numbers 0 or 1, as tuples ascend."""
    told = [()]
    for _ in range(many):
        told = [bits + (bit,) for bits in told for bit in (0, 1)]
    return told


def count_pairs(condition):
    """How many ands and ors stand in a condition, itself counted."""
    if condition[0] == "look":
        return 0
    if condition[0] == "not":
        return count_pairs(condition[1])
    return 1 + count_pairs(condition[1]) + count_pairs(condition[2])


def with_turns(condition, turns):
    """As `turned`, of a condition and turns that are known to fit."""
    word = condition[0]
    if word == "look":
        return ("look", condition[1])
    if word == "not":
        return ("not", with_turns(condition[1], turns))
    # The turns follow the condition as it is handed in: this pair's own turn,
    # those of its first side, those of its second side.
    middle = 1 + count_pairs(condition[1])
    one = with_turns(condition[1], turns[1:middle])
    other = with_turns(condition[2], turns[middle:])
    if turns[0] == 1:
        return (word, other, one)
    return (word, one, other)
