"""[74] and [75]: is_log."""

import unittest

from keptopen.gamelogs import is_log
from gamesupport import CHAIN, NO_EVENTS, has_event_form
from support import ANY, DRAWN, HALLS, MANY, NO_HALLS, PAIR, TIGHT, Case

START = ("game", PAIR, 2)
EVENTS = (("look", "a", 0), ("shut", "a"), ("look", "b", 1))


class Right(Case):
    def test_logs_possible_or_not(self):
        logs = (
            (START,), (START,) + EVENTS, (START,) + EVENTS * 50, (START, ("shut", "a")), (START, ("look", "zzzzzzzz", 10**59)),
            (START, ("look", "a", 0), ("look", "a", 0)), (START, ("shut", "look")), (START, ("look", "look", 7), ("shut", "shut")),
            (("game", MANY, 10**59), ("look", "a", 10**40)), (("game", CHAIN, 1),) + EVENTS * 1000,
        )
        for log in logs:
            self.is_same(is_log(log), True)
            self.is_same(is_log(thing=log), True)

    def test_halls(self):
        for hall in HALLS + DRAWN + TIGHT:
            self.is_same(is_log((("game", hall, 3),) + EVENTS), True)


class Wrong(Case):
    def no_log(self, thing):
        self.is_same(is_log(thing), False)
        self.is_same(is_log(thing=thing), False)

    def test_any_values(self):
        for value in ANY + (START, [START], (), (list(START),), EVENTS, (START, EVENTS), (None, START), ((START,),)):
            self.no_log(value)

    def test_one_thing_otherwise(self):
        for value in NO_HALLS:
            self.no_log((("game", value, 2),) + EVENTS)
        for value in ANY + (0, -1, True, "2", (2,), None):
            if not (type(value) is int and value > 0):
                self.no_log((("game", PAIR, value),) + EVENTS)
        for value in ANY + ("Game", "games", "look", ("game",), b"game"):
            self.no_log(((value, PAIR, 2),) + EVENTS)
        for start in (START[:2], START + (0,), START[::-1], list(START), ("game", 2, PAIR), None):
            self.no_log((start,) + EVENTS)
        self.no_log([START] + list(EVENTS))

    def test_events(self):
        for value in NO_EVENTS + (START,):
            self.assertFalse(has_event_form(value))
            for k in range(4):
                self.no_log((START,) + EVENTS[:k] + (value,) + EVENTS[k:])


if __name__ == "__main__":
    unittest.main()
