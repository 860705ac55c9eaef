"""Papers by which a hall cannot be kept: dead fillings, bag by bag."""

from keptopen.bybags import dead_among, lost_numbers


def dead_paper(hall, bags, first):
    """A set of dead fillings for each bag, all sound ones of the first bag among them."""
    numbers = lost_numbers(hall, bags, first)
    return tuple([dead_among(numbers[index]) for index in range(len(bags[0]))])
