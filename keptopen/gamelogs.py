"""Tells whether a value is a log, or an event by form."""

from keptopen.errors import NotUsable
from keptopen.hallchecker import hall_fault
from keptopen.kinds import is_name, is_number, is_pair, is_triple


def is_log(thing):
    """Whether any value is a log."""
    if not isinstance(thing, tuple) or len(thing) == 0 or not is_start(thing[0]):
        return False
    return all([is_event(event) for event in thing[1:]])


def is_start(thing):
    """Whether any value is the triple with which a log begins."""
    if not is_triple(thing) or thing[0] != "game":
        return False
    return hall_fault(thing[1]) is None and is_number(thing[2]) and thing[2] > 0


def is_event(thing):
    """Whether any value is an event by form, possible or not."""
    return is_look(thing) or (is_pair(thing) and thing[0] == "shut" and is_name(thing[1]))


def is_look(thing):
    """Whether any value is an event by form in which a chest is looked into."""
    return is_triple(thing) and thing[0] == "look" and is_name(thing[1]) and is_number(thing[2])


def require_log(log):
    """Refuses what is no log."""
    if not is_log(log):
        raise NotUsable("log", -1)
