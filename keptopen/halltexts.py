"""Halls and sets of names, written as text."""

from keptopen.errors import NotUsable
from keptopen.kinds import is_names
from keptopen.usable import require_hall


def hall_text(hall):
    """The lines of the hall, with newlines between."""
    require_hall(hall)
    chests, sizes, seals = hall
    lines = [f"chest {chest} {size}" for chest, size in zip(chests, sizes)]
    return "\n".join(lines + [seal_line(seal) for seal in seals])


def seal_line(seal):
    """The line of a seal: its lot, and each of its rows."""
    lot, rows = seal
    return " ".join(["seal", ",".join(lot)] + [row_word(row) for row in rows])


def row_word(row):
    """The word of a row: its things, with commas between."""
    return ",".join([str(thing) for thing in row])


def chests_words(chests):
    """The names of any set of names, with spaces between; - for no name."""
    if not is_names(chests):
        raise NotUsable("chests", -1)
    if len(chests) == 0:
        return "-"
    return " ".join(chests)
