"""Openers who go outwards bag by bag, and open no chest twice."""

from keptopen.bybags import lost_numbers, outwards
from keptopen.errors import InvalidEvent, NotUsable, NothingToUndo
from keptopen.fillingchecker import is_filling
from keptopen.fillings import agree, has_chest, part_in, state_of, with_pair
from keptopen.usable import is_thing_of


class Walker:
    """An opener of a hall that cannot be kept, who catches each keeper."""

    def __init__(self, hall, bags, first):
        self._numbers = lost_numbers(hall, bags, first)
        self._after = dict(outwards(bags, first))
        self._hall = hall
        self._bags = bags
        self._first = first
        self._looks = ()
        self._filling = ()
        self._bag = first
        # What stood open, and at which bag, ahead of each look.
        self._befores = ()

    @property
    def filling_now(self):
        """What stands open."""
        return self._filling

    @property
    def bag_now(self):
        """The index of the bag at which the opener is."""
        return self._bag

    @property
    def looks_now(self):
        """The pairs of a chest and a thing that were seen, in their order."""
        return self._looks

    def state(self):
        """The state: "caught" if what stands open is not sound, "going" otherwise."""
        return state_of(self._hall, self._filling)

    def wanted(self):
        """The pair of the set of the chests that are shut ahead, and the chest to look into; None if caught."""
        if state_of(self._hall, self._filling) == "caught":
            return None
        _, stays, chest = self._next_place()
        return (tuple([name for name, _ in self._filling if not has_chest(stays, name)]), chest)

    def look(self, thing):
        """The keeper says that the wanted chest holds this thing; the state after it."""
        if state_of(self._hall, self._filling) == "caught":
            raise InvalidEvent(("look", thing), "caught")
        bag, stays, chest = self._next_place()
        if not is_thing_of(self._hall, chest, thing):
            raise NotUsable("thing", thing)
        self._befores = self._befores + ((self._filling, self._bag),)
        self._looks = self._looks + ((chest, thing),)
        self._filling = with_pair(stays, chest, thing)
        self._bag = bag
        return self.state()

    def undo(self):
        """Takes back the last look, and all that was shut for it; the pair of the look."""
        if len(self._looks) == 0:
            raise NothingToUndo(0)
        pair = self._looks[-1]
        self._filling, self._bag = self._befores[-1]
        self._befores = self._befores[:-1]
        self._looks = self._looks[:-1]
        return pair

    def _next_place(self):
        """The triple of the bag that comes next, what stays open for it, and the chest to look into."""
        bag = self._bag
        stays = self._filling
        shut = shut_chests(self._bags[0][bag], stays)
        while not shut:
            bag = dead_end(self._numbers, self._after[bag], stays)
            stays = part_in(stays, self._bags[0][bag])
            shut = shut_chests(self._bags[0][bag], stays)
        return (bag, stays, shut[0])

    def __contains__(self, x):
        return is_filling(self._hall, (x,)) and x in self._looks

    def __len__(self):
        return len(self._looks)

    def __iter__(self):
        return iter(self._looks)

    def __eq__(self, other):
        if not isinstance(other, Walker) or self._hall != other._hall or self._bags != other._bags:
            return False
        return self._first == other._first and self._looks == other._looks


def shut_chests(lot, filling):
    """The list of the chests of the lot that the filling lacks."""
    return [chest for chest in lot if not has_chest(filling, chest)]


def dead_end(numbers, after, filling):
    """The least of the next bags of which all fillings are dead that hold the same as a dead filling."""
    return min([other for other in after if all_dead(numbers[other], filling)])


def all_dead(numbers, filling):
    """Whether the number is 0 of all fillings that hold the same as this one in the chests of both."""
    return all([numbers[one] == 0 for one in numbers if agree(one, filling)])
