"""Keepers as objects: what they may say, and how an opener goes on."""

from keptopen.errors import NotUsable
from keptopen.families import unbarred_fillings
from keptopen.fillingchecker import is_filling
from keptopen.fillings import answers_to, breaks_none, has_chest
from keptopen.hallchanges import with_seal
from keptopen.plays import barring_looks, look_left, moves_left
from keptopen.usable import is_chest_of, require_hall, require_m


class Keeper:
    """A keeper of a hall for m, which never changes."""

    def __init__(self, hall, m):
        require_hall(hall)
        require_m(m)
        self._hall = hall
        self._m = m
        self._looks = barring_looks(hall, m)
        self._family = unbarred_fillings(hall, m, self._looks)

    @property
    def hall_now(self):
        """The hall."""
        return self._hall

    @property
    def m_now(self):
        """How many chests may stand open."""
        return self._m

    @property
    def family_now(self):
        """The greatest family, () if there is none."""
        return self._family

    @property
    def moves_now(self):
        """The fewest moves of rows that catch, None if there is a family."""
        return self._looks[()][0] if () in self._looks else None

    def things_for(self, filling, chest):
        """The set of the things of the chest with which the filling is in the family."""
        require_sound(self._hall, self._m, filling)
        if len(filling) == self._m:
            raise NotUsable("filling", -1)
        if not is_chest_of(self._hall, chest) or has_chest(filling, chest):
            raise NotUsable("chest", chest)
        answers = answers_to(self._hall, filling, chest)
        return tuple([thing for thing, longer in enumerate(answers) if longer in self._family])

    def moves_from(self, filling):
        """Within how many moves the filling is barred, None if it is not."""
        require_sound(self._hall, self._m, filling)
        return moves_left(self._hall, self._m, self._looks, filling)

    def next_look(self, filling):
        """Any pair of a chest to shut or None, and a chest to look into, None where the keeper is never caught."""
        require_sound(self._hall, self._m, filling)
        return look_left(self._hall, self._m, self._looks, filling)

    def with_m(self, m):
        """The Keeper of the hall for another m."""
        return Keeper(self._hall, m)

    def __contains__(self, x):
        return is_filling(self._hall, x) and x in self._family

    def __len__(self):
        return len(self._family)

    def __iter__(self):
        return iter(self._family)

    def __eq__(self, other):
        return isinstance(other, Keeper) and self._hall == other._hall and self._m == other._m

    def __add__(self, other):
        return Keeper(with_seal(self._hall, other), self._m)


def require_sound(hall, m, filling):
    """Refuses what is no sound filling of at most m chests."""
    if not is_filling(hall, filling) or len(filling) > m or not breaks_none(hall, filling):
        raise NotUsable("filling", -1)
