"""Confirms thickets, and papers of the size of a web."""

from keptopen.bagchecker import bags_fault
from keptopen.fillings import parts_up_to
from keptopen.hallchecker import require_no_fault
from keptopen.kinds import is_pair, is_triple
from keptopen.thickets import hangs_together, touch
from keptopen.usable import is_lot_of, require_m, require_web


def lets_thicket(web, m, thing):
    """How many lots a thicket for m has; InvalidPaper for any other value."""
    require_web(web)
    require_m(m)
    require_no_fault(thicket_fault(web, m, thing))
    return len(thing)


def lets_size(web, m, thing):
    """Whether the size of the web is at most m, by a paper; InvalidPaper for any other value."""
    require_web(web)
    require_m(m)
    require_no_fault(size_fault(web, m, thing))
    return thing[0] == "bags"


def thicket_fault(web, m, lots):
    """The first fault of any value as a thicket for m, a pair (word, at); None for a thicket."""
    fault = touching_fault(web, lots)
    if fault is None and some_meet_all(web, m, lots):
        return ("met", -1)
    return fault


def touching_fault(web, lots):
    """The first fault of any value as a set of lots that hang together, each two of which touch."""
    if not isinstance(lots, tuple) or len(lots) == 0:
        return ("shape", -1)
    for k in range(len(lots)):
        fault = lot_fault(web, lots, k)
        if fault is not None:
            return fault
    return None


def lot_fault(web, lots, k):
    """The first fault of lots[k] by itself and beside those ahead, which have none."""
    if not is_lot_of(web, lots[k]) or len(lots[k]) == 0:
        return ("lot", k)
    if k > 0 and lots[k - 1] >= lots[k]:
        return ("order", k)
    if not hangs_together(web, lots[k]):
        return ("apart", k)
    for j in range(k):
        if not touch(web, lots[j], lots[k]):
            return ("touch", (j, k))
    return None


def some_meet_all(web, m, lots):
    """Whether at most m chests have one of each lot."""
    return any([meets_all(some, lots) for some in parts_up_to(web[0], m)])


def meets_all(some, lots):
    """Whether these chests have one of each lot."""
    return all([any([chest in lot for chest in some]) for lot in lots])


def size_fault(web, m, thing):
    """The first fault of any value as a paper of the size of the web, a pair (word, at); None for a paper."""
    if is_triple(thing) and thing[0] == "bags":
        fault = bags_fault(web, thing[1:])
        return too_great_fault(m, thing[1]) if fault is None else fault
    if is_pair(thing) and thing[0] == "thicket":
        return thicket_fault(web, m, thing[1])
    return ("shape", -1)


def too_great_fault(m, bags):
    """The first bag that has more than m chests."""
    for j, bag in enumerate(bags):
        if len(bag) > m:
            return ("size", j)
    return None
