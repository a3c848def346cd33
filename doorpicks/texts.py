"""Picks and sets as texts."""

from doorpicks.checks import MOST_THINGS, is_rising
from doorpicks.errors import NoPick, NoText

EMPTY = "none"


def written(pick):
    """Tell the text of a pick or a set."""
    if not is_rising(pick, MOST_THINGS):
        raise NoPick("this is no pick of things up to 199")
    if len(pick) == 0:
        return EMPTY
    return " ".join(str(thing) for thing in pick)


def read(text):
    """Tell the pick or the set of a text."""
    if text == EMPTY:
        return ()
    # Words are looked up: int would take signs and noughts ahead too, and is
    # refused by Python for very many figures. Of another word None is told,
    # which is no thing.
    thing_of = {str(thing): thing for thing in range(MOST_THINGS)}
    told = [thing_of.get(word) for word in text.split(" ")]
    if not is_rising(told, MOST_THINGS):
        raise NoText("this is no text of a pick of things up to 199")
    return tuple(told)
