"""Thickets, which show that a web has no tree of small bags."""

from keptopen.bags import size_of_web
from keptopen.fillings import parts_up_to
from keptopen.usable import require_m, require_web
from keptopen.webparts import parts_left, pieces


def thicket(web, m):
    """Any thicket of the web for m, None if the size of the web is at most m."""
    require_web(web)
    require_m(m)
    if size_of_web(web) <= m:
        return None
    choices = [list(parts_left(web, lot)) for lot in parts_up_to(web[0], m) if len(lot) == m]
    return tuple(sorted(set(touching_lots(web, choices))))


def touching_lots(web, choices):
    """A list with one lot of each of the choices, each two of which touch, None if there is none."""
    if not choices:
        return []
    # What has the fewest lots left comes first, so that a wrong choice is soon found out.
    ranked = sorted([(len(lots), lots) for lots in choices])
    rest = [lots for _, lots in ranked[1:]]
    for lot in ranked[0][1]:
        left = [[other for other in lots if touch(web, lot, other)] for lots in rest]
        found = touching_lots(web, left) if all(left) else None
        if found is not None:
            return [lot] + found
    return None


def touch(web, one, other):
    """Whether two lots share a chest, or a gate joins a chest of the one and one of the other."""
    if any([chest in other for chest in one]):
        return True
    return any([(a in one and b in other) or (b in one and a in other) for a, b in web[1]])


def hangs_together(web, lot):
    """Whether the chests of the lot, which has one or more, hang together."""
    return len(pieces(lot, web[1])) == 1
