"""The whole sound fillings of a hall, and what is the same in all of them."""

from keptopen.fillings import breaks_none
from keptopen.usable import require_chest, require_hall


def whole_fillings(hall):
    """The set of the whole sound fillings."""
    require_hall(hall)
    return tuple(wholes_with(hall, ()))


def many_wholes(hall):
    """How many whole sound fillings there are."""
    require_hall(hall)
    return len(wholes_with(hall, ()))


def some_whole(hall):
    """Any whole sound filling, None if there is none."""
    require_hall(hall)
    wholes = wholes_with(hall, ())
    return wholes[0] if wholes else None


def held_things(hall, chest):
    """The set of the things that the chest holds in the whole sound fillings."""
    require_hall(hall)
    require_chest(hall, chest)
    place = hall[0].index(chest)
    return tuple(sorted({whole[place][1] for whole in wholes_with(hall, ())}))


def sure_things(hall):
    """The filling of the chests that hold the same thing in all whole sound fillings, None if there are none."""
    require_hall(hall)
    wholes = wholes_with(hall, ())
    if not wholes:
        return None
    return tuple([pair for pair in wholes[0] if all([pair in whole for whole in wholes])])


def wholes_with(hall, filling):
    """The list of the whole sound fillings of which this filling is part, ascending."""
    told = dict(filling)
    found = [()]
    for chest, size in zip(hall[0], hall[1]):
        things = [told[chest]] if chest in told else list(range(size))
        longer = [part + ((chest, thing),) for part in found for thing in things]
        found = [part for part in longer if breaks_none(hall, part)]
    return found
