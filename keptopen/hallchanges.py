"""Halls with a seal more or less, and with other names."""

from keptopen.errors import NotUsable
from keptopen.kinds import is_name, is_pair
from keptopen.usable import is_chest_of, require_hall, require_index, require_seal


def with_seal(hall, seal):
    """The hall with this seal more, as the last one."""
    require_hall(hall)
    require_seal(hall, seal)
    chests, sizes, seals = hall
    return (chests, sizes, seals + (seal,))


def without_seal(hall, index):
    """The hall without the seal with this index."""
    require_hall(hall)
    chests, sizes, seals = hall
    require_index(seals, index)
    return (chests, sizes, seals[:index] + seals[index + 1:])


def renamed(hall, *pairs):
    """The hall with other names for some chests, all renamed at once."""
    require_hall(hall)
    require_renamings(hall, pairs)
    chests, sizes, seals = hall
    told = dict(pairs)
    names = {chest: told.get(chest, chest) for chest in chests}
    if len({names[chest] for chest in chests}) < len(chests):
        raise NotUsable("pairs", -1)
    order = sorted([(names[chest], size) for chest, size in zip(chests, sizes)])
    return (
        tuple([name for name, _ in order]),
        tuple([size for _, size in order]),
        tuple([renamed_seal(names, seal) for seal in seals]),
    )


def require_renamings(hall, pairs):
    """Refuses the first pair that is no renaming of a chest, or renames one again."""
    taken = []
    for k, pair in enumerate(pairs):
        if not is_renaming(hall, pair) or pair[0] in taken:
            raise NotUsable("pairs", k)
        taken.append(pair[0])


def is_renaming(hall, pair):
    """Whether any value is a pair of a chest of the hall and a name."""
    return is_pair(pair) and is_chest_of(hall, pair[0]) and is_name(pair[1])


def renamed_seal(names, seal):
    """The seal with the names for its chests, its lot and its rows ascending anew."""
    lot, rows = seal
    order = sorted([(names[chest], place) for place, chest in enumerate(lot)])
    places = [place for _, place in order]
    return (tuple([name for name, _ in order]), tuple(sorted([picked(row, places) for row in rows])))


def picked(row, places):
    """The elements of the row at these places, in their order."""
    return tuple([row[place] for place in places])
