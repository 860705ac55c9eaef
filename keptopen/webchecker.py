"""Tells whether a value is a web, and what is wrong with it if not."""

from keptopen.hallchecker import require_no_fault
from keptopen.kinds import is_chests, is_pair


def lets_web(thing):
    """How many gates a web has; InvalidPaper for a value that is no web."""
    require_no_fault(web_fault(thing))
    return len(thing[1])


def web_fault(thing):
    """The first fault of any value as a web, a pair (word, at); None for a web."""
    if not is_pair(thing):
        return ("shape", -1)
    chests, gates = thing
    if not is_chests(chests):
        return ("chests", -1)
    if not isinstance(gates, tuple):
        return ("gates", -1)
    for k, gate in enumerate(gates):
        if not is_gate(chests, gate):
            return ("gate", k)
        if k > 0 and gates[k - 1] >= gate:
            return ("order", k)
    return None


def is_gate(chests, thing):
    """Whether any value is a pair of two of the chests, the first less than the second."""
    return is_pair(thing) and is_chests(thing) and all([chest in chests for chest in thing])
