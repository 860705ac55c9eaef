"""Events and logs, read from text."""

from keptopen.errors import InvalidText, NotUsable
from keptopen.hallreadings import hall_told, writes_number
from keptopen.kinds import is_name


def read_event(line):
    """The event that a string writes as event_line does."""
    if not isinstance(line, str):
        raise NotUsable("line", -1)
    return event_told(line, 0)


def read_log(lines):
    """The log that a list of strings writes as log_lines does."""
    if not isinstance(lines, list) or not all([isinstance(line, str) and "\n" not in line for line in lines]):
        raise NotUsable("lines", -1)
    many, m = start_told(lines[0] if lines else "")
    if len(lines) < many + 1:
        raise InvalidText(len(lines), 0)
    hall = hall_told(lines[1:many + 1], 1)
    events = [event_told(lines[k], k) for k in range(many + 1, len(lines))]
    return (("game", hall, m),) + tuple(events)


def start_told(line):
    """The pair of how many lines the hall has, and of m, that the first line of a log tells."""
    words = line.split(" ")
    if words[0] != "game":
        raise InvalidText(0, 0)
    for field in (1, 2):
        if len(words) <= field or not writes_number(words[field]) or words[field] == "0":
            raise InvalidText(0, field)
    if len(words) > 3:
        raise InvalidText(0, 3)
    return (int(words[1]), int(words[2]))


def event_told(line, k):
    """The event that line k of some lines tells."""
    words = line.split(" ")
    if words[0] not in ("look", "shut"):
        raise InvalidText(k, 0)
    if len(words) < 2 or not is_name(words[1]):
        raise InvalidText(k, 1)
    if words[0] == "shut":
        event = ("shut", words[1])
    elif len(words) < 3 or not writes_number(words[2]):
        raise InvalidText(k, 2)
    else:
        event = ("look", words[1], int(words[2]))
    if len(words) > len(event):
        raise InvalidText(k, len(event))
    return event
