"""[86]: event_line, log_lines."""

import unittest

from keptopen.errors import NotUsable
from keptopen.eventtexts import event_line, log_lines
from keptopen.halltexts import hall_text
from gamesupport import CHAIN, NO_EVENTS
from support import ANY, DRAWN, HALLS, MANY, NO_HALLS, PAIR, TIGHT, Case
from test_gamelogs import EVENTS, START


class Lines(Case):
    def test_events(self):
        for event, line in (
            (("look", "a", 0), "look a 0"), (("shut", "b"), "shut b"), (("look", "abcdefgh", 10**59), "look abcdefgh 1" + "0" * 59),
            (("look", "shut", 12), "look shut 12"), (("shut", "look"), "shut look"),
        ):
            self.is_same(event_line(event), line)
            self.is_same(event_line(event=event), line)

    def test_no_events(self):
        self.refuses_parameter(event_line, {"event": ("shut", "a")}, "event", NO_EVENTS, "event")

    def test_logs(self):
        self.is_same(
            log_lines((START,) + EVENTS),
            [
                "game 5 2", "chest a 2", "chest b 2", "seal a 0", "seal a,b 0,0 1,1", "seal b 1", "look a 0", "shut a", "look b 1",
            ],
        )
        self.is_same(log_lines(log=(("game", (("a",), (1,), ()), 10**59),)), ["game 1 1" + "0" * 59, "chest a 1"])
        # Nothing but the form of events is asked.
        self.is_same(log_lines((START, ("shut", "zz"), ("shut", "zz"), ("look", "a", 99)))[-3:], ["shut zz", "shut zz", "look a 99"])

    def test_all_halls(self):
        for hall in HALLS + DRAWN + TIGHT + (MANY, CHAIN):
            lines = hall_text(hall).split("\n")
            self.is_same(log_lines((("game", hall, 3),) + EVENTS), [f"game {len(lines)} 3"] + lines + ["look a 0", "shut a", "look b 1"])

    def test_more_events_than_a_game_takes(self):
        self.is_same(len(log_lines((START,) + EVENTS * 1000)), 6 + 3000)

    def test_the_list_is_new(self):
        log = (START,) + EVENTS
        told = log_lines(log)
        told.append("shut a")
        self.is_same(len(log_lines(log)), 9)

    def test_no_logs(self):
        wrong = ANY + (START, [START], list((START,) + EVENTS), (START, None), (("game", PAIR, 0),), (("game", PAIR, True),))
        wrong += tuple([(("game", hall, 2),) for hall in NO_HALLS]) + tuple([(START,) + EVENTS + (value,) for value in NO_EVENTS])
        self.refuses_parameter(log_lines, {"log": (START,)}, "log", wrong, "log")
        self.refuses(NotUsable("log", -1), log_lines, (START, EVENTS))


if __name__ == "__main__":
    unittest.main()
