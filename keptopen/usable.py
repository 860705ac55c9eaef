"""Refuses parameters that are not usable, with the word that the document gives to each."""

from keptopen.errors import NotUsable
from keptopen.hallchecker import hall_fault, seal_fault, sizes_of
from keptopen.kinds import is_bits, is_names, is_number
from keptopen.webchecker import web_fault


def require_hall(hall):
    """Refuses what is no hall."""
    if hall_fault(hall) is not None:
        raise NotUsable("hall", -1)


def require_web(web):
    """Refuses what is no web."""
    if web_fault(web) is not None:
        raise NotUsable("web", -1)


def require_chest(hall, chest):
    """Refuses what is no chest of the hall, or of the web."""
    if not is_chest_of(hall, chest):
        raise NotUsable("chest", chest)


def require_lot(hall, lot):
    """Refuses what is no set of chests of the hall, or of the web, perhaps of none."""
    if not is_lot_of(hall, lot):
        raise NotUsable("lot", -1)


def require_odds(web, odds):
    """Refuses what is no set of chests of the web, perhaps of none."""
    if not is_lot_of(web, odds):
        raise NotUsable("odds", -1)


def require_bits(web, bits):
    """Refuses what are no bits, one for each gate of the web."""
    if not is_bits(bits, len(web[1])):
        raise NotUsable("bits", -1)


def require_seal(hall, seal):
    """Refuses what is no seal of chests and things of the hall."""
    if seal_fault(sizes_of(hall), seal, 0) is not None:
        raise NotUsable("seal", -1)


def require_index(seals, index):
    """Refuses what is no index of these seals."""
    if not is_number(index) or index >= len(seals):
        raise NotUsable("index", index)


def require_m(m):
    """Refuses what is no number from 1 on."""
    if not is_number(m) or m == 0:
        raise NotUsable("m", m)


def require_text(text):
    """Refuses what is no string."""
    if not isinstance(text, str):
        raise NotUsable("text", -1)


def is_chest_of(hall, thing):
    """Whether any value is a chest of the hall, or of the web."""
    return thing in hall[0]


def is_lot_of(hall, thing):
    """Whether any value is a set of chests of the hall, or of the web, perhaps of none."""
    return is_names(thing) and all([is_chest_of(hall, chest) for chest in thing])


def is_thing_of(hall, chest, thing):
    """Whether any value is a thing of this chest of the hall."""
    return is_number(thing) and thing < sizes_of(hall)[chest]
