"""Halls as objects."""

from keptopen.errors import NotUsable
from keptopen.hallchanges import renamed, with_seal, without_seal
from keptopen.hallchecker import lets_hall, seal_fault, sizes_fault, sizes_of
from keptopen.hallparts import gates_of, seals_of, size_of
from keptopen.hallreadings import hall_read
from keptopen.halltexts import hall_text
from keptopen.kinds import is_chests
from keptopen.usable import is_chest_of, require_index


class Hall:
    """A hall, which never changes."""

    def __init__(self, chests, sizes, *seals):
        require_makings(chests, sizes, seals)
        self._hall = (chests, sizes, seals)
        self._seals = seals

    @classmethod
    def of(cls, hall):
        """The Hall of any value that is a hall."""
        lets_hall(hall)
        chests, sizes, seals = hall
        return Hall(chests, sizes, *seals)

    @classmethod
    def read(cls, text):
        """The Hall that a string writes."""
        chests, sizes, seals = hall_read(text)
        return Hall(chests, sizes, *seals)

    @property
    def hall_now(self):
        """The hall."""
        return self._hall

    @property
    def chests_now(self):
        """The chests of the hall."""
        return self._hall[0]

    @property
    def sizes_now(self):
        """The sizes of the chests, in their order."""
        return self._hall[1]

    @property
    def seals_now(self):
        """The seals of the hall."""
        return self._seals

    def size(self, chest):
        """How many things the chest has."""
        return size_of(self._hall, chest)

    def gates(self):
        """The set of the pairs of chests that stand in the lot of some seal, together."""
        return gates_of(self._hall)

    def called(self, *pairs):
        """The Hall with other names for some chests, all renamed at once."""
        return Hall.of(renamed(self._hall, *pairs))

    def __call__(self, chest):
        return seals_of(self._hall, chest)

    def __getitem__(self, at):
        require_index(self._seals, at)
        return self._seals[at]

    def __contains__(self, x):
        return is_chest_of(self._hall, x)

    def __len__(self):
        return len(self._seals)

    def __iter__(self):
        return iter(self._seals)

    def __str__(self):
        return str(hall_text(self._hall))

    def __eq__(self, other):
        return isinstance(other, Hall) and self._hall == other._hall

    def __add__(self, other):
        return Hall.of(with_seal(self._hall, other))

    def __sub__(self, other):
        return Hall.of(without_seal(self._hall, other))

    def __or__(self, other):
        if not isinstance(other, Hall) or not sizes_agree(self._hall, other._hall):
            raise NotUsable("other", -1)
        return Hall.of(joined_halls(self._hall, other._hall))


def require_makings(chests, sizes, seals):
    """Refuses what no hall can be made of."""
    if not is_chests(chests):
        raise NotUsable("chests", -1)
    if not isinstance(sizes, tuple) or sizes_fault(chests, sizes) is not None:
        raise NotUsable("sizes", -1)
    for k, seal in enumerate(seals):
        if seal_fault(dict(zip(chests, sizes)), seal, k) is not None:
            raise NotUsable("seals", k)


def sizes_agree(one, other):
    """Whether each chest that two halls share has as many things in both."""
    mine = sizes_of(one)
    theirs = sizes_of(other)
    return all([mine[chest] == theirs[chest] for chest in mine if chest in theirs])


def joined_halls(one, other):
    """The hall with the chests of both, all seals of one, then those of other."""
    mine = sizes_of(one)
    theirs = sizes_of(other)
    sizes = {**mine, **theirs}
    chests = sorted(list(sizes))
    return (tuple(chests), tuple([sizes[chest] for chest in chests]), one[2] + other[2])
