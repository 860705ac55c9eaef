"""Confirms papers by which an opener catches each keeper, or a keeper is never caught."""

from keptopen.families import family_fault
from keptopen.fillingchecker import is_filling
from keptopen.fillings import breaks_none, has_chest, is_part, with_pair
from keptopen.hallchecker import require_no_fault, sizes_of
from keptopen.kinds import is_number, is_pair, is_triple
from keptopen.usable import is_chest_of, require_hall, require_m


def lets_play(hall, m, thing):
    """The moves of the last row of a paper with rows that catch, None for one with a family."""
    require_hall(hall)
    require_m(m)
    require_no_fault(paper_fault(hall, m, thing))
    kind, told = thing
    return moves_of_rows(told)[-1] if kind == "caught" else None


def paper_fault(hall, m, thing):
    """The first fault of any value as a paper, a pair (word, at); None for a paper."""
    if not is_pair(thing) or not isinstance(thing[1], tuple):
        return ("shape", -1)
    kind, told = thing
    if kind == "caught":
        return rows_fault(hall, m, told)
    if kind == "kept":
        return family_fault(hall, m, told)
    return ("shape", -1)


def rows_fault(hall, m, rows):
    """The first fault of a tuple as rows that catch, a pair (word, at); None for such rows."""
    for k in range(len(rows)):
        fault = row_fault(hall, m, rows, k)
        if fault is not None:
            return fault
    if len(rows) == 0 or rows[-1][0] != ():
        return ("last", -1)
    return None


def row_fault(hall, m, rows, k):
    """The first fault of rows[k], those ahead having none."""
    if not has_row_shape(hall, rows[k]):
        return ("row", k)
    filling, chest, grounds = rows[k]
    if len(filling) >= m:
        return ("many", k)
    if has_chest(filling, chest):
        return ("chest", k)
    if len(grounds) != sizes_of(hall)[chest]:
        return ("grounds", k)
    for thing in range(len(grounds)):
        word = ground_fault(hall, rows, k, thing)
        if word is not None:
            return (word, (k, thing))
    return None


def has_row_shape(hall, row):
    """Whether any value is a triple of a filling, sound or not, a chest, and a tuple."""
    return is_triple(row) and is_filling(hall, row[0]) and is_chest_of(hall, row[1]) and isinstance(row[2], tuple)


def ground_fault(hall, rows, k, thing):
    """The word for the fault of the ground that rows[k] has for this thing."""
    filling, chest, grounds = rows[k]
    ground = grounds[thing]
    longer = with_pair(filling, chest, thing)
    if ground is None:
        return "sound" if breaks_none(hall, longer) else None
    if not is_number(ground) or ground >= k:
        return "ground"
    return None if is_part(rows[ground][0], longer) else "part"


def moves_of_rows(rows):
    """The moves of each of the rows."""
    told = []
    for row in rows:
        told.append(1 + max([told[ground] for ground in row[2] if ground is not None], default=0))
    return told
