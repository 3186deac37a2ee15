"""Conditions written as texts with the fewest brackets, and read from texts."""

from jumpsay.conditions import check_condition
from jumpsay.errors import BadText

LETTERS = "abcdefgh"
SIGNS = {"not": "!", "and": "&", "or": "|"}
WORDS = {"&": "and", "|": "or"}

# The signs with which a condition may begin, and those behind which one is due.
BEGINNINGS = "abcdefgh!("
BEFORE_ONE = "!(&|"

# What binds more is joined first; past a bracket that opens nothing is joined.
BINDS = {"!": 3, "&": 2, "|": 1, "(": 0}


def written(condition):
    """The text of a condition, with the fewest brackets."""
    check_condition(condition)
    return text_of(condition, BINDS["|"])


def read(text):
    """The condition that a text writes."""
    check_signs(text)
    condition = condition_of(text)
    check_condition(condition)
    return condition


def text_of(condition, least):
    """The text of a condition, in brackets if it binds less than `least`."""
    word = condition[0]
    if word == "look":
        return LETTERS[condition[1]]
    sign = SIGNS[word]
    binds = BINDS[sign]
    if word == "not":
        text = sign + text_of(condition[1], binds)
    else:
        # Like ones are read from the left on, so a second side has to bind more.
        text = text_of(condition[1], binds) + sign + text_of(condition[2], binds + 1)
    if binds < least:
        return f"({text})"
    return text


def check_signs(text):
    """Refuses a text that writes no condition, however large one may be."""
    due = True
    unclosed = 0
    for place, sign in enumerate(text):
        if not may_stand(sign, due, unclosed):
            raise BadText(place)
        if sign == "(":
            unclosed += 1
        if sign == ")":
            unclosed -= 1
        due = sign in BEFORE_ONE
    if due or unclosed > 0:
        raise BadText(len(text))


def may_stand(sign, due, unclosed):
    """Whether a sign may stand where a condition is due, or is not, with so many brackets unclosed."""
    if due:
        return sign in BEGINNINGS
    if sign == ")":
        return unclosed > 0
    return sign in WORDS


def condition_of(text):
    """As `read`, of a text that is known to write a condition, which may be too large."""
    # Lists instead of calls within calls: a text may have more nots than calls may stand
    # within one another.
    done = []
    waiting = []
    for sign in text:
        if sign in LETTERS:
            done.append(("look", LETTERS.index(sign)))
        elif sign == ")":
            join_waiting(done, waiting, BINDS["|"])
            waiting.pop()
        else:
            if sign in WORDS:
                join_waiting(done, waiting, BINDS[sign])
            waiting.append(sign)
    join_waiting(done, waiting, BINDS["|"])
    return done[0]


def join_waiting(done, waiting, least):
    """Joins what is done by the last of the waiting signs, as long as these bind at least so much."""
    while len(waiting) > 0 and BINDS[waiting[-1]] >= least:
        sign = waiting.pop()
        last = done.pop()
        if sign == "!":
            done.append(("not", last))
        else:
            done.append((WORDS[sign], done.pop(), last))
