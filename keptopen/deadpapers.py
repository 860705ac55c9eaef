"""Papers by which a hall cannot be kept: dead fillings, bag by bag."""

from keptopen.bagchecker import require_bags
from keptopen.bybags import dead_among, numbers_by, require_first
from keptopen.errors import NotUsable
from keptopen.usable import require_hall


def dead_paper(hall, bags, first):
    """A set of dead fillings for each bag, all sound ones of the first bag among them."""
    require_hall(hall)
    require_bags(hall, bags)
    require_first(bags, first)
    numbers = numbers_by(hall, bags, first)
    if any([numbers[first][filling] > 0 for filling in numbers[first]]):
        raise NotUsable("hall", -1)
    return tuple([dead_among(numbers[index]) for index in range(len(bags[0]))])
