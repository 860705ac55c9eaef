"""Events and logs, written as text."""

from keptopen.errors import NotUsable
from keptopen.gamelogs import is_event, require_log
from keptopen.halltexts import hall_text


def event_line(event):
    """The line of an event by form."""
    if not is_event(event):
        raise NotUsable("event", -1)
    return " ".join([str(word) for word in event])


def log_lines(log):
    """A list of the lines of a log: those of its hall behind how many they are, and one for each event."""
    require_log(log)
    _, hall, m = log[0]
    lines = hall_text(hall).split("\n")
    return [f"game {len(lines)} {m}"] + lines + [event_line(event) for event in log[1:]]
