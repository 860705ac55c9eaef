"""What a web tells of its chests, and the web of a hall."""

from keptopen.hallparts import gates_of
from keptopen.usable import require_chest, require_hall, require_lot, require_web


def neighbors(web, chest):
    """The set of the chests to which a gate joins the chest."""
    require_web(web)
    require_chest(web, chest)
    return tuple(sorted(joined_by(web[1]).get(chest, [])))


def parts_without(web, lot):
    """The set of the parts of the web without these chests."""
    require_web(web)
    require_lot(web, lot)
    return parts_left(web, lot)


def web_of(hall):
    """The web of the hall: its chests, and a gate for each two chests of a lot of a seal."""
    require_hall(hall)
    return (hall[0], gates_of(hall))


def parts_left(web, lot):
    """parts_without, for what is known to be a web and a set of its chests."""
    return pieces([chest for chest in web[0] if chest not in lot], web[1])


def joined_by(pairs):
    """For each element of the pairs the list of those that a pair joins it with, a dict."""
    joined = {}
    for one, other in pairs:
        joined[one] = joined.get(one, []) + [other]
        joined[other] = joined.get(other, []) + [one]
    return joined


def pieces(members, pairs):
    """The set of the sets into which these members fall by those of the pairs that join two of them."""
    known = {one: True for one in members}
    joined = joined_by([pair for pair in pairs if pair[0] in known and pair[1] in known])
    placed = {}
    found = []
    for start in members:
        if start not in placed:
            piece = reached_from(start, joined)
            found.append(piece)
            for one in piece:
                placed[one] = True
    return tuple(sorted(found))


def reached_from(start, joined):
    """The set of what ways lead to from the start, which is in it; joined tells what each one is joined with."""
    reached = {start: True}
    waiting = [start]
    while waiting:
        here = waiting.pop()
        for other in joined.get(here, []):
            if other not in reached:
                reached[other] = True
                waiting.append(other)
    return tuple(sorted(list(reached)))
