"""Whole fillings glued of a family, bag by bag, and how many looks an opener needs who goes outwards."""

from keptopen.bagchecker import require_bags, size_of_bags
from keptopen.bybags import outwards, require_first
from keptopen.errors import NotUsable
from keptopen.families import family_fault
from keptopen.fillingchecker import is_filling
from keptopen.fillings import answers_to, has_chest
from keptopen.usable import require_hall


def kept_by(hall, bags, family):
    """Any whole sound filling whose parts in all bags are in the family."""
    require_hall(hall)
    require_bags(hall, bags)
    require_family_for(hall, size_of_bags(bags), family)
    known = {filling: True for filling in family}
    held = {}
    for index, _ in outwards(bags, 0):
        lot = bags[0][index]
        # What is held of the bag is part of a filling of the nearer one, and so in the family.
        part = tuple([(chest, held[chest]) for chest in lot if chest in held])
        for chest, thing in grown_within(hall, known, lot, part):
            held[chest] = thing
    return tuple([(chest, held[chest]) for chest in hall[0]])


def moves_by(hall, bags, first):
    """The greatest number of chests that the bags on one way outwards from the first one have together."""
    require_hall(hall)
    require_bags(hall, bags)
    require_first(bags, first)
    lots = bags[0]
    together = {first: len(lots[first])}
    for index, after in outwards(bags, first):
        for other in after:
            # A chest that was met on the way is in the nearer bag, too.
            fresh = [chest for chest in lots[other] if chest not in lots[index]]
            together[other] = together[index] + len(fresh)
    return max([together[index] for index in together])


def require_family_for(hall, size, family):
    """Refuses what is no family for any m that is at least the size."""
    if not isinstance(family, tuple) or not all([is_filling(hall, filling) for filling in family]):
        raise NotUsable("family", -1)
    # By this m, or, if a filling has all chests, by each greater one, too.
    m = max([len(filling) for filling in family], default=0)
    if m < size or family_fault(hall, m, family) is not None:
        raise NotUsable("family", -1)


def grown_within(hall, known, lot, filling):
    """The known filling that has all chests of the lot, and of which this known one is part."""
    grown = filling
    for chest in lot:
        if not has_chest(grown, chest):
            grown = [longer for longer in answers_to(hall, grown, chest) if longer in known][0]
    return grown
