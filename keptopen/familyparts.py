"""Families that whole fillings and greater families have in them."""

from keptopen.errors import NotUsable
from keptopen.families import is_family
from keptopen.fillingchecker import require_whole
from keptopen.fillings import breaks_none, parts_up_to
from keptopen.kinds import is_number
from keptopen.usable import require_hall, require_m


def whole_family(hall, m, filling):
    """The family of all parts of a whole sound filling that have at most m chests."""
    require_hall(hall)
    require_m(m)
    require_whole(hall, filling)
    if not breaks_none(hall, filling):
        raise NotUsable("filling", -1)
    return parts_up_to(filling, m)


def cut_family(hall, m, family, less):
    """The family for less of the fillings of a family that have at most so many chests."""
    if not is_family(hall, m, family):
        raise NotUsable("family", -1)
    if not is_number(less) or not 1 <= less <= m:
        raise NotUsable("less", less)
    return tuple([filling for filling in family if len(filling) <= less])
