"""Tells whether a value is a filling of a hall, and what is wrong with it if not."""

from keptopen.errors import NotUsable
from keptopen.hallchecker import require_no_fault, sizes_of
from keptopen.kinds import is_name, is_number, is_pair
from keptopen.usable import require_hall


def lets_filling(hall, thing):
    """How many chests stand in a filling; InvalidPaper for a value that is no filling of the hall."""
    require_hall(hall)
    require_no_fault(filling_fault(hall, thing))
    return len(thing)


def filling_fault(hall, thing):
    """The first fault of any value as a filling of the hall, a pair (word, at); None for a filling."""
    if not isinstance(thing, tuple):
        return ("shape", -1)
    sizes = sizes_of(hall)
    for k in range(len(thing)):
        word = pair_fault(sizes, thing, k)
        if word is not None:
            return (word, k)
    return None


def pair_fault(sizes, pairs, k):
    """The word for the first fault of pairs[k], those ahead having none; sizes is a dict by chest."""
    if not is_pair(pairs[k]):
        return "pair"
    chest, thing = pairs[k]
    if not is_name(chest) or chest not in sizes:
        return "chest"
    if k > 0 and pairs[k - 1][0] >= chest:
        return "order"
    if not is_number(thing) or thing >= sizes[chest]:
        return "thing"
    return None


def is_filling(hall, thing):
    """Whether any value is a filling of the hall, sound or not."""
    return filling_fault(hall, thing) is None


def require_filling(hall, filling):
    """Refuses what is no filling of the hall."""
    if not is_filling(hall, filling):
        raise NotUsable("filling", -1)


def require_whole(hall, filling):
    """Refuses what is no whole filling of the hall."""
    if not is_filling(hall, filling) or len(filling) < len(hall[0]):
        raise NotUsable("filling", -1)
