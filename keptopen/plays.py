"""How fast an opener catches each keeper, and with how many open chests at least."""

from keptopen.fillings import answers_to, has_chest, sound_fillings, without_chest
from keptopen.usable import require_hall, require_m


def moves(hall, m):
    """The fewest moves of rows that catch, None if there is a family."""
    require_hall(hall)
    require_m(m)
    return fewest_moves(hall, m)


def grasp(hall):
    """The least m for which there are rows that catch, None if there is none."""
    require_hall(hall)
    for m in range(1, len(hall[0]) + 1):
        if fewest_moves(hall, m) is not None:
            return m
    return None


def fewest_moves(hall, m):
    """moves, for what is known to be a hall and a number from 1 on."""
    looks = barring_looks(hall, m)
    return looks[()][0] if () in looks else None


def most_open(hall, m):
    """How many chests can stand open; all that goes by more than there are is the same as by all."""
    return min(m, len(hall[0]))


def watched_parts(filling, most):
    """The greatest parts of the filling that have fewer than most chests, of which it has itself at most so many."""
    # What bars a part bars the filling, so that lesser parts need not be looked at.
    if len(filling) < most:
        return [filling]
    return [without_chest(filling, chest) for chest, _ in filling]


def barring_looks(hall, m):
    """For each barred filling the pair of the fewest moves and a chest to look into, a dict by filling."""
    most = most_open(hall, m)
    looks = looks_with_answers(hall, most, sound_fillings(hall, most))
    found = {}
    fresh = looks_that_bar(looks, found)
    steps = 0
    while fresh:
        steps += 1
        for filling in fresh:
            found[filling] = (steps, fresh[filling])
        fresh = looks_that_bar(looks, found)
    return found


def looks_with_answers(hall, most, fillings):
    """A triple (filling, chest, answers) for each look that can be made while fewer than most chests stand open.

    The answers have, for each thing that may be told, the parts of which one has to be barred.
    """
    known = {filling: True for filling in fillings}
    looks = []
    for filling in fillings:
        held = dict(filling)
        for chest in hall[0]:
            if len(filling) < most and chest not in held:
                told = [longer for longer in answers_to(hall, filling, chest) if longer in known]
                looks.append((filling, chest, [watched_parts(longer, most) for longer in told]))
    return looks


def looks_that_bar(looks, found):
    """A chest for each filling that is not found yet, but for each answer has a part that is; a dict by filling."""
    fresh = {}
    for filling, chest, answers in looks:
        if filling not in found and filling not in fresh:
            if all([any([part in found for part in parts]) for parts in answers]):
                fresh[filling] = chest
    return fresh


def moves_left(hall, m, looks, filling):
    """Within how many moves a sound filling of at most m chests is barred, None if it is not."""
    part = soonest_part(looks, watched_parts(filling, most_open(hall, m)))
    return None if part is None else looks[part][0]


def look_left(hall, m, looks, filling):
    """A pair of a chest to shut or None, and a chest to look into, so that it is barred so soon; None if it is not."""
    part = soonest_part(looks, watched_parts(filling, most_open(hall, m)))
    if part is None:
        return None
    away = [chest for chest, _ in filling if not has_chest(part, chest)]
    return (away[0] if away else None, looks[part][1])


def soonest_part(looks, parts):
    """The one of these parts that is barred within the fewest moves, None if none of them is barred."""
    barred = [(looks[part][0], part) for part in parts if part in looks]
    return min(barred)[1] if barred else None
