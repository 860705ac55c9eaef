"""Confirms papers by which a hall cannot be kept."""

from keptopen.bagchecker import require_bags
from keptopen.bybags import outwards, require_first, sound_fillings_of
from keptopen.fillingchecker import is_filling
from keptopen.fillings import breaks_none, part_in
from keptopen.hallchecker import require_no_fault
from keptopen.usable import require_hall


def lets_dead(hall, bags, first, thing):
    """How many fillings stand in a tuple as told by dead_paper; InvalidPaper for any other value."""
    require_hall(hall)
    require_bags(hall, bags)
    require_first(bags, first)
    require_no_fault(dead_fault(hall, bags, first, thing))
    return sum([len(fillings) for fillings in thing])


def dead_fault(hall, bags, first, sets):
    """The first fault of any value as sets of dead fillings, a pair (word, at); None for such sets."""
    lots = bags[0]
    if not isinstance(sets, tuple) or len(sets) != len(lots):
        return ("shape", -1)
    for k, fillings in enumerate(sets):
        if not is_set_for(hall, lots[k], fillings):
            return ("set", k)
    sound = {lot: sound_fillings_of(hall, lot) for lot in lots}
    lacking = lacking_ones(sound[lots[first]], sets[first])
    if lacking:
        return ("first", lacking[0])
    return next_fault(bags, dict(outwards(bags, first)), sound, sets)


def is_set_for(hall, lot, fillings):
    """Whether any value is a set of sound fillings that have just the chests of the lot."""
    if not isinstance(fillings, tuple) or not all([is_sound_for(hall, lot, filling) for filling in fillings]):
        return False
    return all([fillings[j] < fillings[j + 1] for j in range(len(fillings) - 1)])


def is_sound_for(hall, lot, thing):
    """Whether any value is a sound filling that has just the chests of the lot."""
    if not is_filling(hall, thing) or tuple([chest for chest, _ in thing]) != lot:
        return False
    return breaks_none(hall, thing)


def lacking_ones(fillings, among):
    """The list of those of the fillings that are not among these."""
    known = {filling: True for filling in among}
    return [filling for filling in fillings if filling not in known]


def next_fault(bags, after, sound, sets):
    """The first filling of a set for which no next bag has all that holds the same in its set."""
    lots = bags[0]
    for k, fillings in enumerate(sets):
        ways_on = [ways_left(lots[k], lots[other], sound[lots[other]], sets[other]) for other in after[k]]
        for j, filling in enumerate(fillings):
            if all([part_in(filling, shared) in left for shared, left in ways_on]):
                return ("next", (k, j))
    return None


def ways_left(lot, other, fillings, dead):
    """The pair of the chests of both bags, and of what these hold where a filling of the other is not dead, a dict."""
    shared = [chest for chest in lot if chest in other]
    return (shared, {part_in(filling, shared): True for filling in lacking_ones(fillings, dead)})
