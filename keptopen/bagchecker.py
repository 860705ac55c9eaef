"""Confirms trees of bags of a web."""

from keptopen.errors import NotUsable
from keptopen.hallchecker import require_no_fault
from keptopen.kinds import is_number, is_pair
from keptopen.usable import is_lot_of, require_web
from keptopen.webparts import pieces, web_of


def lets_bags(web, thing):
    """The size of a tree of bags of the web; InvalidPaper for any other value."""
    require_web(web)
    require_no_fault(bags_fault(web, thing))
    return size_of_bags(thing)


def require_bags(hall, bags):
    """Refuses what is no tree of bags of the web of the hall."""
    if bags_fault(web_of(hall), bags) is not None:
        raise NotUsable("bags", -1)


def size_of_bags(bags):
    """The greatest number of chests of a bag."""
    return max([len(bag) for bag in bags[0]])


def bags_fault(web, thing):
    """The first fault of any value as a tree of bags, a pair (word, at); None for a tree of bags."""
    if not is_pair(thing) or not all([isinstance(part, tuple) for part in thing]) or len(thing[0]) == 0:
        return ("shape", -1)
    bags, links = thing
    fault = lots_fault(web, bags)
    if fault is None:
        fault = links_fault(len(bags), links)
    if fault is None:
        fault = places_fault(web, bags, links)
    return fault


def lots_fault(web, bags):
    """The first bag that is no set of chests of the web."""
    for j, bag in enumerate(bags):
        if not is_lot_of(web, bag):
            return ("bag", j)
    return None


def links_fault(many, links):
    """The first fault of any values as links by which so many bags are one tree."""
    for k, link in enumerate(links):
        if not is_link(many, link):
            return ("link", k)
        if k > 0 and links[k - 1] >= link:
            return ("order", k)
    if len(links) != many - 1 or len(pieces(list(range(many)), links)) != 1:
        return ("tree", -1)
    return None


def is_link(many, thing):
    """Whether any value is a pair of indexes of so many bags, the first less than the second."""
    return is_pair(thing) and all([is_number(index) and index < many for index in thing]) and thing[0] < thing[1]


def places_fault(web, bags, links):
    """The first chest or gate that has no bag, or the first chest whose bags do not hang together."""
    chests, gates = web
    where = counted([chest for bag in bags for chest in bag])
    for chest in chests:
        if chest not in where:
            return ("chest", chest)
    known = [{name: True for name in bag} for bag in bags]
    for k, (one, other) in enumerate(gates):
        if not any([one in bag and other in bag for bag in known]):
            return ("gate", k)
    shared = counted([chest for j, k in links for chest in bags[j] if chest in known[k]])
    for chest in chests:
        # Some bags of a tree hang together just if one link fewer than they are joins two of them.
        if shared.get(chest, 0) != where[chest] - 1:
            return ("apart", chest)
    return None


def counted(names):
    """How often each of the names stands there, a dict by name."""
    times = {}
    for name in names:
        times[name] = times.get(name, 0) + 1
    return times
