"""[83]: game_through."""

import unittest

from keptopen.errors import Barred, InvalidEvent, NotUsable
from keptopen.gameruns import game_through
from keptopen.games import Game
from keptopen.guarded import Sure
from gamesupport import CHAIN, NO_EVENTS, PLAYED, SlowGame, drawn_event, has_event_form
from support import ANY, PAIR, Case, Draw

RUN = (("look", "b", 0), ("look", "c", 0), ("shut", "b"), ("look", "d", 1))


class Counting(Game):
    """A game that keeps the events that apply was given."""

    def __init__(self, hall, m):
        super().__init__(hall, m)
        self.given = []

    def apply(self, event):
        self.given.append(event)
        return super().apply(event)


class Through(Case):
    def test_all_events(self):
        game = Game(CHAIN, 2)
        self.is_same(game_through(game, RUN[:3]), (("game", CHAIN, 2),) + RUN[:3])
        self.is_same((game.tally(), game.state(), list(game)), ((3, 3), "going", list(RUN[:3])))
        self.is_same(game_through(events=RUN[3:], game=game), (("game", CHAIN, 2),) + RUN)
        self.is_same((game.tally(), game.state()), ((4, 4), "caught"))
        self.is_same(game_through(Game(PAIR, 1), ()), (("game", PAIR, 1),))

    def test_it_stops_where_the_keeper_is_caught(self):
        for more in ((("shut", "zz"),), (("look", "a", 9), ("look", "a", 0)), RUN, (("shut", "d"),) * 40):
            game = Game(CHAIN, 2)
            self.is_same(game_through(game, RUN + more), (("game", CHAIN, 2),) + RUN)
            self.is_same(game.tally(), (4, 4))
            # Already caught, so that nothing is applied.
            self.is_same(game_through(game, more), (("game", CHAIN, 2),) + RUN)
            self.is_same(game.tally(), (4, 4))

    def test_what_came_before_an_error_remains(self):
        refused = ((("shut", "a"), "shut"), (("look", "q", 0), "chest"), (("look", "b", 1), "open"), (("look", "a", 2), "thing"))
        for wrong, reason in refused:
            game = Game(CHAIN, 3)
            self.refuses(InvalidEvent(wrong, reason), game_through, game, RUN[:2] + (wrong,) + RUN[2:])
            self.is_same((list(game), game.tally()), (list(RUN[:2]), (3, 3)))
        sure = Sure(PAIR, 1)
        self.refuses(Barred(("look", "b", 0), (1,)), game_through, sure, (("look", "a", 0), ("shut", "a"), ("look", "b", 0)))
        self.is_same((list(sure), sure.tally()), ([("look", "a", 0), ("shut", "a")], (3, 3)))

    def test_too_many_events(self):
        game = Game(CHAIN, 2)
        events = (("look", "b", 0), ("shut", "b")) * 13
        self.refuses(InvalidEvent(("look", "b", 0), "full"), game_through, game, events)
        self.is_same((len(game), game.tally()), (24, (25, 25)))

    def test_by_apply(self):
        game = Counting(CHAIN, 2)
        game_through(game, RUN + RUN)
        self.is_same(game.given, list(RUN))

    def test_drawn_events(self):
        for seed, hall in enumerate(PLAYED):
            draw = Draw(seed)
            for m in (1, 2):
                game, slow = Game(hall, m), SlowGame(hall, m)
                events = [drawn_event(draw, hall, ()) for _ in range(12)]
                events = tuple([event for event in events if has_event_form(event)])
                reached, error = [], None
                for event in events:
                    if slow.state(reached) == "going" and error is None:
                        reason = slow.reason(reached, event)
                        if reason is None:
                            reached.append(event)
                        else:
                            error = InvalidEvent(event, reason)
                if error is None:
                    self.is_same(game_through(game, events), (("game", hall, m),) + tuple(reached))
                else:
                    self.refuses(error, game_through, game, events)
                self.is_same(list(game), reached)


class Wrong(Case):
    def test_games(self):
        wrong = ANY + (Game(PAIR, 1).log(), PAIR, ("game", PAIR, 1))
        self.refuses_parameter(game_through, {"game": Game(PAIR, 1), "events": ()}, "game", wrong, "game")

    def test_events(self):
        game = Game(CHAIN, 2)
        wrong = [value for value in ANY if value != ()] + [(value,) for value in NO_EVENTS] + [list(RUN), RUN[0], ("look", "b", 0)]
        wrong += [RUN + (None,), (None,) + RUN, RUN[:1] + (["shut", "b"],), game]
        self.refuses_parameter(game_through, {"game": game, "events": RUN}, "events", wrong, "events")
        self.is_same((len(game), game.tally()), (0, (0, 0)))
        # Also where the keeper is caught.
        game.look("a", 1)
        self.refuses(NotUsable("events", -1), game_through, game, [])
        self.refuses(NotUsable("events", -1), game_through, game, (("shut",),))


if __name__ == "__main__":
    unittest.main()
