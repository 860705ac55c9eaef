"""Tells whether a value is a hall, and what is wrong with it if not."""

from keptopen.errors import InvalidPaper
from keptopen.kinds import is_chests, is_name, is_number, is_pair, is_triple


def lets_hall(thing):
    """How many seals a hall has; InvalidPaper for a value that is no hall."""
    require_no_fault(hall_fault(thing))
    return len(thing[2])


def require_no_fault(fault):
    """Refuses a paper with a fault, a pair (word, at); None is no fault."""
    if fault is not None:
        word, at = fault
        raise InvalidPaper(word, at)


def hall_fault(thing):
    """The first fault of any value as a hall, a pair (word, at); None for a hall."""
    if not has_hall_shape(thing):
        return ("shape", -1)
    chests, sizes, seals = thing
    fault = chests_fault(chests)
    if fault is None:
        fault = sizes_fault(chests, sizes)
    if fault is None:
        fault = seals_fault(dict(zip(chests, sizes)), seals)
    return fault


def has_hall_shape(thing):
    """Whether any value is a triple of tuples, the first of them not empty."""
    return is_triple(thing) and all([isinstance(part, tuple) for part in thing]) and len(thing[0]) > 0


def chests_fault(chests):
    """The first fault of the chests of a hall."""
    for k, chest in enumerate(chests):
        if not is_name(chest) or (k > 0 and chests[k - 1] >= chest):
            return ("chest", k)
    return None


def sizes_fault(chests, sizes):
    """The first fault of the sizes of these chests."""
    if len(sizes) != len(chests):
        return ("sizes", -1)
    for k, size in enumerate(sizes):
        if not is_number(size) or size == 0:
            return ("size", k)
    return None


def seals_fault(sizes, seals):
    """The first fault of the seals of a hall; sizes is a dict by chest."""
    for k, seal in enumerate(seals):
        fault = seal_fault(sizes, seal, k)
        if fault is not None:
            return fault
    return None


def seal_fault(sizes, seal, k):
    """The first fault of any value as seal k of a hall; sizes is a dict by chest."""
    if not is_pair(seal) or not all([isinstance(part, tuple) for part in seal]):
        return ("seal", k)
    lot, rows = seal
    if not is_seal_lot(sizes, lot):
        return ("lot", k)
    limits = [sizes[chest] for chest in lot]
    for j, row in enumerate(rows):
        if not is_row(limits, row) or (j > 0 and rows[j - 1] >= row):
            return ("row", (k, j))
    return None


def is_seal_lot(sizes, lot):
    """Whether any value is a set of one to three of the chests; sizes is a dict by chest."""
    return is_chests(lot) and len(lot) <= 3 and all([chest in sizes for chest in lot])


def is_row(limits, row):
    """Whether any value is a tuple with a number below each of the limits."""
    if not isinstance(row, tuple) or len(row) != len(limits):
        return False
    return all([is_number(thing) and thing < limit for thing, limit in zip(row, limits)])


def sizes_of(hall):
    """How many things each chest of a hall has, as a dict by chest."""
    return dict(zip(hall[0], hall[1]))
