"""What a filling breaks, what fits to it, and its parts."""

from keptopen.errors import NotUsable
from keptopen.fillingchecker import require_filling
from keptopen.hallchecker import sizes_of
from keptopen.usable import require_chest, require_hall


def broken_by(hall, filling):
    """The set of the indexes of the seals that the filling breaks."""
    require_hall(hall)
    require_filling(hall, filling)
    return broken_seals(hall, filling)


def is_sound(hall, filling):
    """Whether the filling breaks no seal."""
    require_hall(hall)
    require_filling(hall, filling)
    return breaks_none(hall, filling)


def fitting(hall, filling, chest):
    """The set of the things of the chest with each of which the filling is sound."""
    require_hall(hall)
    require_filling(hall, filling)
    require_chest(hall, chest)
    if has_chest(filling, chest):
        raise NotUsable("chest", chest)
    answers = answers_to(hall, filling, chest)
    return tuple([thing for thing, longer in enumerate(answers) if breaks_none(hall, longer)])


def parts_of(hall, filling):
    """The set of the parts of the filling, () and itself among them."""
    require_hall(hall)
    require_filling(hall, filling)
    return parts_up_to(filling, len(filling))


def broken_seals(hall, filling):
    """broken_by, for what is known to be a filling of the hall."""
    held = dict(filling)
    return tuple([k for k, (lot, rows) in enumerate(hall[2]) if breaks(held, lot, rows)])


def breaks_none(hall, filling):
    """is_sound, for what is known to be a filling of the hall."""
    held = dict(filling)
    return not any([breaks(held, lot, rows) for lot, rows in hall[2]])


def state_of(hall, filling):
    """The state of a keeper while this filling stands open: "caught" if it breaks a seal, "going" otherwise."""
    return "going" if breaks_none(hall, filling) else "caught"


def breaks(held, lot, rows):
    """Whether a seal is broken by what chests hold, a dict by chest."""
    if not all([chest in held for chest in lot]):
        return False
    return tuple([held[chest] for chest in lot]) not in rows


def has_chest(filling, chest):
    """Whether the chest stands in the filling."""
    return any([chest == other for other, _ in filling])


def with_pair(filling, chest, thing):
    """The filling with the pair of a chest that it lacks and a thing."""
    return tuple(sorted(filling + ((chest, thing),)))


def answers_to(hall, filling, chest):
    """The filling with each thing of a chest that it lacks, in order, as a list."""
    return [with_pair(filling, chest, thing) for thing in range(sizes_of(hall)[chest])]


def without_chest(filling, chest):
    """The filling without the pair of the chest."""
    return tuple([pair for pair in filling if pair[0] != chest])


def part_in(filling, lot):
    """The pairs of the filling whose chests are in the lot."""
    return tuple([pair for pair in filling if pair[0] in lot])


def is_part(one, other):
    """Whether the one filling is part of the other one."""
    return all([pair in other for pair in one])


def agree(one, other):
    """Whether no chest holds unlike things in two fillings."""
    held = dict(other)
    return all([held.get(chest, thing) == thing for chest, thing in one])


def parts_up_to(filling, most):
    """The set of the parts of the filling that have at most so many chests."""
    parts = [()]
    for pair in filling:
        parts = parts + [part + (pair,) for part in parts if len(part) < most]
    return tuple(sorted(parts))


def sound_fillings(hall, most):
    """The set of the sound fillings of the hall that have at most so many chests."""
    found = [()]
    for chest, size in zip(hall[0], hall[1]):
        shorter = [filling for filling in found if len(filling) < most]
        longer = [filling + ((chest, thing),) for filling in shorter for thing in range(size)]
        found = found + [filling for filling in longer if breaks_none(hall, filling)]
    return tuple(sorted(found))
