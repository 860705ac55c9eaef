"""The greatest family of a hall, and whether a value is a family."""

from keptopen.fillingchecker import is_filling
from keptopen.fillings import breaks_none, has_chest, sound_fillings, without_chest
from keptopen.plays import barring_looks, most_open, soonest_part, watched_parts
from keptopen.usable import require_hall, require_m


def family(hall, m):
    """The set of all fillings that are in any family, None if there is no family."""
    require_hall(hall)
    require_m(m)
    kept = unbarred_fillings(hall, m, barring_looks(hall, m))
    return kept if kept else None


def is_family(hall, m, thing):
    """Whether any value is a family, as a set."""
    require_hall(hall)
    require_m(m)
    return isinstance(thing, tuple) and family_fault(hall, m, thing) is None


def unbarred_fillings(hall, m, looks):
    """The greatest family, () if there is none; looks are the barring ones."""
    most = most_open(hall, m)
    fillings = sound_fillings(hall, most)
    return tuple([one for one in fillings if soonest_part(looks, watched_parts(one, most)) is None])


def family_fault(hall, m, fillings):
    """The first fault of a tuple as a family, a pair (word, at); None for a family."""
    if len(fillings) == 0:
        return ("empty", -1)
    for j in range(len(fillings)):
        word = member_fault(hall, m, fillings, j)
        if word is not None:
            return (word, j)
    return closing_fault(hall, m, fillings)


def member_fault(hall, m, fillings, j):
    """The word for the first fault of element j by itself and beside the one ahead, which has none."""
    if not is_filling(hall, fillings[j]) or not breaks_none(hall, fillings[j]):
        return "filling"
    if len(fillings[j]) > m:
        return "many"
    if j > 0 and fillings[j - 1] >= fillings[j]:
        return "order"
    return None


def closing_fault(hall, m, fillings):
    """The first element that lacks a part or a next filling among these, as a pair (word, at)."""
    known = {filling: True for filling in fillings}
    # By what was added last, as a chest may have too many things to try each of them.
    grown = {(without_chest(filling, chest), chest): True for filling in fillings for chest, _ in filling}
    for j, filling in enumerate(fillings):
        for chest in hall[0]:
            if has_chest(filling, chest):
                if without_chest(filling, chest) not in known:
                    return ("part", (j, chest))
            elif len(filling) < m and (filling, chest) not in grown:
                return ("next", (j, chest))
    return None
