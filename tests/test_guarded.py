"""[82] and [84]: class Sure."""

import unittest

from keptopen.errors import Barred, InvalidEvent, KeepError, NotUsable, NothingToUndo
from keptopen.games import Game
from keptopen.guarded import Sure
from gamesupport import CHAIN, NO_EVENTS, PLAYED, SlowGame, drawn_event, has_event_form
from support import ALONE, ANY, DRAWN, FREE, GREAT, HALLS, LONG, NEVER, NO_HALLS, ODD, PAIR, ROW, TIGHT, VALUE, Case, Draw
from support import slow_family
from test_plays import NO_MS

KEPT = tuple([(hall, m) for hall in PLAYED for m in range(1, len(hall[0]) + 2) if slow_family(hall, min(m, len(hall[0])))])


class Few(Sure):
    """A game of few events whose keeper is never caught."""

    MOST = 4


class Drawn(Case):
    """Games of drawn events, beside the words of the document."""

    def test_drawn_games(self):
        reasons = {}
        for seed, (hall, m) in enumerate(KEPT):
            for made, most in ((Sure, 24), (Few, 4)):
                draw = Draw(seed)
                game, slow, calls = made(hall, m), SlowGame(hall, m, most, True), 0
                for _ in range(25):
                    calls += self.one_call(draw, game, slow, reasons)
                    self.shows(game, slow)
                    self.is_same(game.tally(), (calls, calls))
        self.assertEqual(set(reasons), {None, "shape", "full", "chest", "open", "many", "thing", "shut", "lost"})
        self.assertGreater(min(reasons.values()), 10, reasons)

    def shows(self, game, slow):
        """The keeper is not caught, and always has something to say."""
        filling = slow.filling(slow.events)
        self.is_same((game.state(), game.left_now, game.advice(), game.broken_now), ("going", None, None, ()))
        self.is_same((game.filling_now, list(game)), (filling, slow.events))
        for chest in slow.hall[0]:
            if chest not in dict(filling) and len(filling) < slow.m:
                self.is_same(game.things_now(chest), slow.things(slow.events, chest))
                self.assertNotEqual(game.things_now(chest), ())
        one = Game(slow.hall, slow.m)
        one.do_all(*slow.events)
        self.assertTrue(one == game and game == one)

    def error(self, slow, events, event, reason):
        """The error of an event that is refused for this reason."""
        if reason == "lost":
            return Barred(event, slow.things(events, event[1]))
        return InvalidEvent(event, reason)

    def one_call(self, draw, game, slow, reasons):
        """Calls one thing of a game; how many calls count."""
        events = [drawn_event(draw, slow.hall, slow.filling(slow.events)) for _ in range(1 + draw.below(3))]
        kind = draw.below(7)
        if kind == 0 and slow.events:
            self.is_same(game.undo(), slow.events.pop())
            return 1
        if kind == 0:
            self.refuses(NothingToUndo(0), game.undo)
            return 1
        if kind < 3:
            return self.many_events(game, slow, events, draw.below(3))
        event = events[0]
        reason = slow.reason(slow.events, event)
        reasons[reason] = reasons.get(reason, 0) + 1
        self.is_same(game.barred(event), reason)
        self.is_same(game.barred(event=event), reason)
        call, args = game.apply, (event,)
        if kind > 4 and has_event_form(event):
            call, args = (game.look if event[0] == "look" else game.shut), event[1:]
        if reason is None:
            slow.events.append(event)
            self.is_same(call(*args), "going")
        else:
            self.refuses(self.error(slow, slow.events, event, reason), call, *args)
        return 1

    def many_events(self, game, slow, events, kind):
        """Calls tried, or do_all; how many calls count."""
        reached, reason = slow.run(events)
        call = game.tried if kind == 0 else game.do_all
        named = {} if kind == 0 else {"keep": kind == 1}
        if reason is None:
            right = (slow.filling(reached), None, "going") if kind == 0 else len(events)
            self.is_same(call(*events, **named), right)
        else:
            event = events[len(reached) - len(slow.events)]
            self.refuses(self.error(slow, reached, event, reason), call, *events, **named)
        if kind == 1 or (kind == 2 and reason is None):
            slow.events = reached
        return int(kind > 0)


class Making(Case):
    def test_halls_with_a_family_and_without(self):
        kinds = set()
        for hall in HALLS + DRAWN[:60] + TIGHT[:10]:
            for m in range(1, len(hall[0]) + 2):
                kept = slow_family(hall, min(m, len(hall[0]))) is not None
                kinds.add(kept)
                if kept:
                    game = Sure(m=m, hall=hall)
                    self.is_same((game.hall_now, game.m_now, game.tally(), len(game)), (hall, m, (0, 0), 0))
                else:
                    self.refuses(NotUsable("m", m), Sure, hall, m)
                    self.refuses(NotUsable("m", m), Sure, m=m, hall=hall)
        self.assertEqual(kinds, {True, False})
        self.refuses(NotUsable("m", 10**59), Sure, PAIR, 10**59)
        self.refuses(NotUsable("m", 1), Sure, NEVER, 1)

    def test_it_is_a_game(self):
        self.assertIsInstance(Sure(PAIR, 1), Game)
        self.assertEqual(Sure.__bases__, (Game,))
        self.is_same((Sure.MOST, Sure(PAIR, 1).MOST, Few(PAIR, 1).MOST), (24, 24, 4))

    def test_wrong_values(self):
        for made in (Sure, Few):
            self.refuses_parameter(made, {"hall": PAIR, "m": 1}, "hall", NO_HALLS, "hall")
            self.refuses_parameter(made, {"hall": PAIR, "m": 1}, "m", NO_MS, "m", VALUE)
            self.refuses_parameter(made, {"hall": PAIR, "m": 1}, "m", (2, 3, 10**20, 6), "m", VALUE)


class Barring(Case):
    def test_behind_the_other_reasons(self):
        game = Sure(PAIR, 1)
        for event, reason in ((("look", "a", 1), "lost"), (("look", "a", 2), "thing"), (("look", "c", 1), "chest")):
            self.is_same(game.barred(event), reason)
        game.look("a", 0)
        self.is_same([game.barred(("look", "a", 1)), game.barred(("look", "b", 0))], ["open", "many"])
        for value in NO_EVENTS:
            self.is_same(game.barred(value), "shape")
        few = Few(PAIR, 1)
        few.do_all(("look", "a", 0), ("shut", "a"), ("look", "b", 1), ("shut", "b"))
        self.is_same(few.barred(("look", "a", 1)), "full")
        self.refuses(InvalidEvent(("look", "a", 1), "full"), few.look, "a", 1)

    def test_by_the_filling_that_is_reached(self):
        game = Sure(PAIR, 1)
        events = (("look", "a", 0), ("shut", "a"), ("look", "b", 0))
        self.refuses(Barred(events[2], (1,)), game.tried, *events)
        self.refuses(Barred(events[2], (1,)), game.do_all, *events)
        self.is_same(len(game), 0)
        self.refuses(Barred(events[2], (1,)), game.do_all, *events, keep=True)
        self.is_same((list(game), game.tally()), (list(events[:2]), (2, 2)))
        self.refuses(Barred(("look", "b", 0), (1,)), game.apply, ("look", "b", 0))
        self.refuses(Barred(("look", "b", 0), (1,)), game.look, "b", 0)
        self.is_same(game.tried(("look", "b", 1)), ((("b", 1),), None, "going"))
        self.refuses(NotUsable("keep", 1), game.do_all, None, keep=1)
        self.is_same(game.tally(), (5, 5))

    def test_things_go_by_what_is_open(self):
        game = Sure(ODD, 2)
        self.is_same([game.things_now("b"), game.look("a", 0), game.things_now("b"), game.things_now("c")], [(0, 1), "going", (0,), (1,)])
        self.refuses(Barred(("look", "b", 1), (0,)), game.look, "b", 1)
        self.is_same([game.look("c", 1), game.shut("a"), game.things_now("b"), game.look("b", 1)], ["going", "going", (1,), "going"])

    def test_the_very_event_is_told(self):
        game, event = Sure(PAIR, 1), ("look", "a", 1)
        with self.assertRaises(Barred) as caught:
            game.apply(event)
        self.assertIs(caught.exception.event, event)

    def test_undo(self):
        game = Sure(CHAIN, 1)
        self.refuses(NothingToUndo(0), game.undo)
        self.is_same([game.look("b", 1), game.undo(), game.look("b", 0), len(game)], ["going", ("look", "b", 1), "going", 1])


class Consequences(Case):
    def test_never_caught(self):
        for hall, m in KEPT[::2]:
            game, draw = Sure(hall, m), Draw(m)
            for _ in range(24):
                filling = dict(game.filling_now)
                left = [chest for chest in hall[0] if chest not in filling]
                if len(filling) == m or not left or (filling and draw.below(3) == 0):
                    game.shut(sorted(filling)[draw.below(len(filling))])
                else:
                    chest = left[draw.below(len(left))]
                    things = game.things_now(chest)
                    self.assertTrue(things)
                    game.look(chest, things[draw.below(len(things))])
                self.is_same((game.state(), game.left_now), ("going", None))
            self.refuses(InvalidEvent(("shut", hall[0][0]), "full"), game.shut, hall[0][0])

    def test_halls_that_can_be_kept_have_one_for_each_m(self):
        for hall in (ALONE, FREE, ROW):
            for m in range(1, 8):
                self.assertIsInstance(Sure(hall, m), Sure)

    def test_equal(self):
        one, other = Sure(ODD, 2), Game(ODD, 2)
        self.assertTrue(one == other and other == one)
        one.look("a", 0)
        self.assertTrue(one != other and other != one)
        other.look("a", 0)
        self.assertTrue(one == other and other == one and one == one)
        for value in ANY:
            self.assertIs(one == value, False)

    def test_great_halls(self):
        for hall in GREAT + (LONG,):
            for m in (1, 2, 3):
                try:
                    game = Sure(hall, m)
                except KeepError:
                    continue
                for chest in hall[0][:m]:
                    self.is_same(game.look(chest, game.things_now(chest)[-1]), "going")


if __name__ == "__main__":
    unittest.main()
