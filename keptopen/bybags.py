"""Halls counted and solved bag by bag, along a tree of bags."""

from keptopen.bagchecker import require_bags
from keptopen.errors import NotUsable
from keptopen.fillings import breaks_none, part_in
from keptopen.hallchecker import sizes_of
from keptopen.kinds import is_number
from keptopen.usable import require_hall, require_index
from keptopen.webparts import joined_by


def many_by(hall, bags):
    """How many whole sound fillings there are."""
    require_hall(hall)
    require_bags(hall, bags)
    numbers = numbers_by(hall, bags, 0)[0]
    return sum([numbers[filling] for filling in numbers])


def some_by(hall, bags):
    """Any whole sound filling, None if there is none."""
    require_hall(hall)
    require_bags(hall, bags)
    numbers = numbers_by(hall, bags, 0)
    held = {}
    for index, _ in outwards(bags, 0):
        filling = going_on(numbers[index], held)
        if filling is None:
            return None
        for chest, thing in filling:
            held[chest] = thing
    return tuple([(chest, held[chest]) for chest in hall[0]])


def counts_at(hall, bags, first, index):
    """The pairs of each sound filling of a bag and of how many sound fillings of all chests beyond it is part."""
    require_at(hall, bags, first, index)
    numbers = numbers_by(hall, bags, first)[index]
    return tuple([(filling, numbers[filling]) for filling in numbers])


def dead_at(hall, bags, first, index):
    """The set of the dead fillings of a bag."""
    require_at(hall, bags, first, index)
    return dead_among(numbers_by(hall, bags, first)[index])


def require_at(hall, bags, first, index):
    """Refuses what is no hall, no tree of bags of its web, no first bag, and no index of a bag."""
    require_hall(hall)
    require_bags(hall, bags)
    require_first(bags, first)
    require_index(bags[0], index)


def require_first(bags, first):
    """Refuses what is no index of a bag."""
    if not is_number(first) or first >= len(bags[0]):
        raise NotUsable("first", first)


def lost_numbers(hall, bags, first):
    """numbers_by, for any values; refuses a hall that can be kept last."""
    require_hall(hall)
    require_bags(hall, bags)
    require_first(bags, first)
    numbers = numbers_by(hall, bags, first)
    if any([numbers[first][filling] > 0 for filling in numbers[first]]):
        raise NotUsable("hall", -1)
    return numbers


def dead_among(numbers):
    """The set of the fillings with the number 0."""
    return tuple([filling for filling in numbers if numbers[filling] == 0])


def going_on(numbers, held):
    """The first filling whose number is not 0 and that holds nothing else than is held, None if there is none."""
    for filling in numbers:
        if numbers[filling] > 0 and all([held.get(chest, thing) == thing for chest, thing in filling]):
            return filling
    return None


def numbers_by(hall, bags, first):
    """For each bag its sound fillings, ascending, with their numbers as counts_at tells them, a dict of dicts."""
    lots = bags[0]
    fillings = {lot: sound_fillings_of(hall, lot) for lot in lots}
    numbers = {}
    for index, after in outwards(bags, first)[::-1]:
        ways_on = [sums_by(numbers[other], [chest for chest in lots[other] if chest in lots[index]]) for other in after]
        numbers[index] = {filling: multiplied(filling, ways_on) for filling in fillings[lots[index]]}
    return numbers


def outwards(bags, first):
    """A pair (index, next bags) for each bag, as a list, each ahead of those beyond it."""
    joined = joined_by(bags[1])
    order = []
    waiting = [(first, None)]
    while waiting:
        index, nearer = waiting.pop()
        after = [other for other in joined.get(index, []) if other != nearer]
        order.append((index, after))
        waiting.extend([(other, index) for other in after])
    return order


def sound_fillings_of(hall, lot):
    """The list of the sound fillings that have just the chests of the lot, ascending."""
    sizes = sizes_of(hall)
    found = [()]
    for chest in lot:
        longer = [part + ((chest, thing),) for part in found for thing in range(sizes[chest])]
        found = [part for part in longer if breaks_none(hall, part)]
    return found


def sums_by(numbers, shared):
    """The pair of shared chests and of the sums of the numbers by what these hold, a dict by filling."""
    sums = {}
    for filling in numbers:
        part = part_in(filling, shared)
        sums[part] = sums.get(part, 0) + numbers[filling]
    return (shared, sums)


def multiplied(filling, ways_on):
    """The product of the sums that the next bags have for the filling."""
    number = 1
    for shared, sums in ways_on:
        number = number * sums.get(part_in(filling, shared), 0)
    return number
