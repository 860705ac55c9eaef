"""Papers by which an opener catches each keeper, or a keeper is never caught."""

from keptopen.families import family
from keptopen.fillings import answers_to, breaks_none
from keptopen.plays import barring_looks, most_open, soonest_part, watched_parts


def play_paper(hall, m):
    """Any paper: rows that catch, or a family."""
    kept = family(hall, m)
    if kept is not None:
        return ("kept", kept)
    return ("caught", catching_rows(hall, m))


def catching_rows(hall, m):
    """Rows that catch within the fewest moves, of a hall that has no family for m."""
    looks = barring_looks(hall, m)
    needed = needed_parts(hall, m, looks)
    # () comes last: no filling needs more moves than it, and each other one has more chests.
    ranked = sorted([(looks[filling][0], -len(filling), filling) for filling in needed])
    order = [filling for _, _, filling in ranked]
    places = {filling: k for k, filling in enumerate(order)}
    return tuple([row_for(hall, m, looks, places, filling) for filling in order])


def needed_parts(hall, m, looks):
    """The barred fillings that the row of () needs, and those that their rows need."""
    needed = {(): True}
    waiting = [()]
    while waiting:
        filling = waiting.pop()
        for part in barred_answers(hall, m, looks, filling):
            if part is not None and part not in needed:
                needed[part] = True
                waiting.append(part)
    return list(needed)


def row_for(hall, m, looks, places, filling):
    """The row of a barred filling; places are the indexes of the rows by their fillings."""
    answers = barred_answers(hall, m, looks, filling)
    return (filling, looks[filling][1], tuple([None if part is None else places[part] for part in answers]))


def barred_answers(hall, m, looks, filling):
    """For each thing of the chest to look into the part that is barred first, None if the thing breaks a seal."""
    answers = []
    for longer in answers_to(hall, filling, looks[filling][1]):
        parts = watched_parts(longer, most_open(hall, m))
        answers.append(soonest_part(looks, parts) if breaks_none(hall, longer) else None)
    return answers
