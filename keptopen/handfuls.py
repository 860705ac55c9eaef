"""Fillings as objects."""

from keptopen.errors import NotUsable
from keptopen.fillingchecker import is_filling, require_filling
from keptopen.fillings import agree, broken_seals, fitting, has_chest, is_part, part_in, with_pair, without_chest
from keptopen.usable import is_thing_of, require_chest, require_hall, require_lot
from keptopen.wholes import wholes_with


class Handful:
    """A filling of a hall, which never changes."""

    def __init__(self, hall, filling):
        require_hall(hall)
        require_filling(hall, filling)
        self._hall = hall
        self._filling = filling

    @classmethod
    def of(cls, hall, *pairs):
        """The Handful with these pairs, in whatever order."""
        require_hall(hall)
        require_pairs(hall, pairs)
        return Handful(hall, tuple(sorted(pairs)))

    @property
    def hall_now(self):
        """The hall."""
        return self._hall

    @property
    def filling_now(self):
        """The filling."""
        return self._filling

    @property
    def chests_now(self):
        """The set of the chests that stand in the filling."""
        return tuple([chest for chest, _ in self._filling])

    @property
    def lacking_now(self):
        """The set of the chests that the filling lacks."""
        return tuple([chest for chest in self._hall[0] if not has_chest(self._filling, chest)])

    @property
    def broken_now(self):
        """The set of the indexes of the seals that the filling breaks."""
        return broken_seals(self._hall, self._filling)

    def given(self, chest, thing):
        """The Handful in which the chest holds this thing, whatever it held."""
        require_chest(self._hall, chest)
        if not is_thing_of(self._hall, chest, thing):
            raise NotUsable("thing", thing)
        return Handful(self._hall, with_pair(without_chest(self._filling, chest), chest, thing))

    def without(self, chest):
        """The Handful without the pair of the chest."""
        require_standing(self._filling, chest)
        return Handful(self._hall, without_chest(self._filling, chest))

    def cut_to(self, lot):
        """The Handful of the pairs whose chests are in the lot."""
        require_lot(self._hall, lot)
        return Handful(self._hall, part_in(self._filling, lot))

    def ways(self):
        """The whole sound fillings of which this one is part, one by one, ascending."""
        for whole in wholes_with(self._hall, self._filling):
            yield whole

    def __call__(self, chest):
        return fitting(self._hall, self._filling, chest)

    def __getitem__(self, at):
        require_standing(self._filling, at)
        return dict(self._filling)[at]

    def __contains__(self, x):
        return is_filling(self._hall, x) and is_part(x, self._filling)

    def __len__(self):
        return len(self._filling)

    def __iter__(self):
        return iter(self._filling)

    def __eq__(self, other):
        return isinstance(other, Handful) and self._hall == other._hall and self._filling == other._filling

    def __add__(self, other):
        require_same_hall(self._hall, other)
        if not agree(self._filling, other._filling):
            raise NotUsable("other", -1)
        return Handful(self._hall, tuple(sorted(set(self._filling + other._filling))))

    def __and__(self, other):
        require_same_hall(self._hall, other)
        return Handful(self._hall, tuple([pair for pair in self._filling if pair in other._filling]))

    def __sub__(self, other):
        require_same_hall(self._hall, other)
        return Handful(self._hall, tuple([pair for pair in self._filling if not has_chest(other._filling, pair[0])]))


class Shut(Handful):
    """The filling of a hall in which no chest stands open."""

    def __init__(self, hall):
        super().__init__(hall, ())


def require_pairs(hall, pairs):
    """Refuses the first pair that is none of a chest and a thing, or whose chest is that of one ahead."""
    for k, pair in enumerate(pairs):
        if not is_filling(hall, (pair,)) or has_chest(pairs[:k], pair[0]):
            raise NotUsable("pairs", k)


def require_standing(filling, chest):
    """Refuses what is no chest that stands in the filling."""
    if not has_chest(filling, chest):
        raise NotUsable("chest", chest)


def require_same_hall(hall, other):
    """Refuses what is no Handful of this hall."""
    if not isinstance(other, Handful) or other._hall != hall:
        raise NotUsable("other", -1)
