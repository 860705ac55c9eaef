"""Confirms papers by which a switched hall can be kept, or not."""

from keptopen.hallchecker import require_no_fault
from keptopen.kinds import is_bit, is_names, is_pair
from keptopen.oddparts import has_odd
from keptopen.settings import odd_chests
from keptopen.usable import require_odds, require_web
from keptopen.webparts import parts_left


def lets_settings(web, odds, thing):
    """Whether the switched hall can be kept, by a paper; InvalidPaper for any other value."""
    require_web(web)
    require_odds(web, odds)
    require_no_fault(settings_fault(web, odds, thing))
    return thing[0] == "set"


def settings_fault(web, odds, thing):
    """The first fault of any value as a paper, a pair (word, at); None for a paper."""
    if not is_pair(thing) or not isinstance(thing[1], tuple):
        return ("shape", -1)
    kind, told = thing
    if kind == "set":
        return bits_fault(web, odds, told)
    if kind == "sum":
        return part_fault(web, odds, told)
    return ("shape", -1)


def bits_fault(web, odds, bits):
    """The first fault of a tuple as bits whose odd chests are odds."""
    if len(bits) != len(web[1]):
        return ("many", -1)
    for k, bit in enumerate(bits):
        if not is_bit(bit):
            return ("bit", k)
    unlike = chests_in_one(odds, odd_chests(web, bits))
    return ("chest", unlike[0]) if unlike else None


def part_fault(web, odds, part):
    """The first fault of a tuple as an odd part."""
    if not is_names(part) or part not in parts_left(web, ()):
        return ("part", -1)
    return None if has_odd(part, odds) else ("even", -1)


def chests_in_one(one, other):
    """The set of the chests that are in just one of two sets."""
    return tuple(sorted(set(one) ^ set(other)))
