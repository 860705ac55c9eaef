"""Halls and sets of names, read from text."""

from keptopen.errors import InvalidText
from keptopen.hallchecker import is_row, is_seal_lot
from keptopen.kinds import is_name
from keptopen.usable import require_text

DIGITS = "0123456789"
MOST_DIGITS = 60


def hall_read(text):
    """The hall that a string writes as hall_text does."""
    require_text(text)
    return hall_told(text.split("\n"), 0)


def hall_told(lines, start):
    """The hall that these lines write, the first of them having the index start."""
    sizes = {}
    seals = []
    for line, told in enumerate(lines, start=start):
        words = told.split(" ")
        if words[0] == "chest" and not seals:
            name, size = chest_told(sizes, line, words)
            sizes[name] = size
        elif words[0] == "seal" and sizes:
            seals.append(seal_told(sizes, line, words))
        else:
            raise InvalidText(line, 0)
    return (tuple(sizes), tuple([sizes[chest] for chest in sizes]), tuple(seals))


def chest_told(sizes, line, words):
    """The name and the size that a line of a chest tells; sizes are those of the chests ahead."""
    if len(words) < 2 or not is_name(words[1]) or any([chest >= words[1] for chest in sizes]):
        raise InvalidText(line, 1)
    if len(words) < 3 or not writes_number(words[2]) or words[2] == "0":
        raise InvalidText(line, 2)
    if len(words) > 3:
        raise InvalidText(line, 3)
    return (words[1], int(words[2]))


def seal_told(sizes, line, words):
    """The seal that a line of a seal tells; sizes are those of all chests."""
    lot = tuple(words[1].split(",")) if len(words) > 1 else ()
    if not is_seal_lot(sizes, lot):
        raise InvalidText(line, 1)
    limits = [sizes[chest] for chest in lot]
    rows = []
    for field in range(2, len(words)):
        row = numbers_told(words[field])
        if not is_row(limits, row) or (rows and rows[-1] >= row):
            raise InvalidText(line, field)
        rows.append(row)
    return (lot, tuple(rows))


def numbers_told(word):
    """The tuple of the numbers that a word tells, with commas between; None if it tells none."""
    parts = word.split(",")
    if not all([writes_number(part) for part in parts]):
        return None
    return tuple([int(part) for part in parts])


def writes_number(word):
    """Whether a word is a number, with no leading zero but 0 itself."""
    # The length goes first: Python refuses to make an int of a very long word.
    if not 1 <= len(word) <= MOST_DIGITS or not all([digit in DIGITS for digit in word]):
        return False
    return word == "0" or word[0] != "0"


def chests_read(text):
    """The set of names that a string writes as chests_words does."""
    require_text(text)
    words = text.split(" ")
    if words == ["-"]:
        return ()
    if words[0] == "-":
        raise InvalidText(0, 1)
    for field, word in enumerate(words):
        if not is_name(word) or (field > 0 and words[field - 1] >= word):
            raise InvalidText(0, field)
    return tuple(words)
