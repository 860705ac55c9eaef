"""[85] and [90]: replayed."""

import unittest

from keptopen.errors import InvalidEvent
from keptopen.games import Game
from keptopen.guarded import Sure
from keptopen.replaying import replayed
from gamesupport import CHAIN, NO_EVENTS, PLAYED, SlowGame, drawn_event
from support import ANY, NO_HALLS, PAIR, Case, Draw
from test_gamelogs import EVENTS, START


class Replayed(Case):
    def test_from_the_log_of_a_game(self):
        for seed, hall in enumerate(PLAYED):
            draw = Draw(seed)
            for m in (1, 2, 3):
                game, slow = Game(hall, m), SlowGame(hall, m)
                for _ in range(20):
                    event = drawn_event(draw, hall, slow.filling(slow.events))
                    if slow.reason(slow.events, event) is None:
                        slow.events.append(event)
                        game.apply(event)
                for told in (replayed(game.log()), replayed(log=game.log())):
                    self.assertIs(type(told), Game)
                    self.assertTrue(told == game)
                    self.is_same((told.log(), told.tally(), told.filling_now), (game.log(), (0, 0), game.filling_now))
                    self.is_same((told.left_now, told.state(), told.m_now), (game.left_now, game.state(), m))

    def test_a_new_game(self):
        game = Game(CHAIN, 2)
        game.look("b", 0)
        told = replayed(game.log())
        told.look("c", 0)
        self.is_same((len(game), len(told), told.tally(), game.tally()), (1, 2, (1, 1), (1, 1)))
        self.is_same(told.undo(), ("look", "c", 0))
        sure = Sure(PAIR, 1)
        sure.look("a", 0)
        self.assertIs(type(replayed(sure.log())), Game)
        self.assertTrue(replayed(sure.log()) == sure)

    def test_the_first_event_that_is_refused(self):
        right = (("look", "a", 0), ("shut", "a"))
        wrong = (
            (("shut", "b"), "shut"), (("look", "q", 0), "chest"), (("shut", "zzzzzzzz"), "chest"), (("look", "a", 2), "thing"),
            (("look", "a", 10**59), "thing"),
        )
        for event, reason in wrong:
            for more in ((), right, (("shut", "d"),)):
                self.refuses(InvalidEvent(event, reason), replayed, (("game", PAIR, 2),) + right + (event,) + more)
        self.refuses(InvalidEvent(("look", "a", 1), "open"), replayed, (("game", PAIR, 2), ("look", "a", 0), ("look", "a", 1)))
        self.refuses(InvalidEvent(("look", "b", 1), "many"), replayed, (("game", PAIR, 1), ("look", "a", 0), ("look", "b", 1)))
        self.refuses(InvalidEvent(("shut", "a"), "caught"), replayed, (("game", PAIR, 1), ("look", "a", 1), ("shut", "a")))
        self.refuses(InvalidEvent(("look", "a", 0), "full"), replayed, (("game", PAIR, 2),) + right * 13)
        self.is_same(len(replayed((("game", PAIR, 2),) + right * 12)), 24)

    def test_wrong_values(self):
        wrong = ANY + (Game(PAIR, 1), START, [START], (START, None), (("game", PAIR, 0),), (("game", PAIR, True),))
        wrong += tuple([(("game", hall, 2),) for hall in NO_HALLS]) + tuple([(START,) + EVENTS + (value,) for value in NO_EVENTS])
        self.refuses_parameter(replayed, {"log": (START,)}, "log", wrong, "log")


if __name__ == "__main__":
    unittest.main()
