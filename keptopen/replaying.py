"""Games made anew from their logs."""

from keptopen.gamelogs import require_log
from keptopen.games import game_after


def replayed(log):
    """A new Game after the events of the log."""
    require_log(log)
    _, hall, m = log[0]
    return game_after(hall, m, log[1:])
