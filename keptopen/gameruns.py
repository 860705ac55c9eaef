"""Games that go on by many events."""

from keptopen.errors import NotUsable
from keptopen.gamelogs import is_event
from keptopen.games import Game


def game_through(game, events):
    """Applies these events as long as the keeper is not caught; the log."""
    if not isinstance(game, Game):
        raise NotUsable("game", -1)
    if not isinstance(events, tuple) or not all([is_event(event) for event in events]):
        raise NotUsable("events", -1)
    for event in events:
        if game.state() != "going":
            break
        game.apply(event)
    return game.log()
