"""Odd parts of a web, by which nobody can keep its switched hall."""

from keptopen.bagchecker import size_of_bags
from keptopen.bags import least_tree_of_bags
from keptopen.kinds import is_odd
from keptopen.usable import require_odds, require_web
from keptopen.webparts import parts_left


def odd_parts(web, odds):
    """The parts of the web with an odd number of chests of odds, ascending."""
    require_web(web)
    require_odds(web, odds)
    return parts_with_odd(web, odds)


def least_switched(web, odds):
    """The least m for which there are rows that catch for the switched hall, None if there is none."""
    require_web(web)
    require_odds(web, odds)
    webs = [web_within(web, part) for part in parts_with_odd(web, odds)]
    return min([size_of_bags(least_tree_of_bags(one)) for one in webs], default=None)


def parts_with_odd(web, odds):
    """odd_parts, for what is known to be a web and a set of its chests."""
    return tuple([part for part in parts_left(web, ()) if has_odd(part, odds)])


def has_odd(part, odds):
    """Whether an odd number of the chests of the part are chests of odds."""
    return is_odd(len([chest for chest in part if chest in odds]))


def web_within(web, part):
    """A part of the web as a web by itself, with its gates."""
    return (part, tuple([gate for gate in web[1] if gate[0] in part]))
