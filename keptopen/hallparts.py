"""What a hall tells of its chests."""

from keptopen.hallchecker import sizes_of
from keptopen.usable import require_chest, require_hall


def size_of(hall, chest):
    """How many things the chest has."""
    require_hall(hall)
    require_chest(hall, chest)
    return sizes_of(hall)[chest]


def seals_of(hall, chest):
    """The set of the indexes of the seals whose lot has the chest."""
    require_hall(hall)
    require_chest(hall, chest)
    return tuple([k for k, (lot, _) in enumerate(hall[2]) if chest in lot])


def gates_of(hall):
    """The set of the pairs of chests that stand in the lot of some seal, together."""
    require_hall(hall)
    lots = [lot for lot, _ in hall[2]]
    return tuple(sorted({(one, other) for lot in lots for one in lot for other in lot if one < other}))
