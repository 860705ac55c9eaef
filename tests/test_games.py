"""[76] to [81]: class Game."""

import unittest

from keptopen.errors import InvalidEvent, KeepError, NotUsable, NothingToUndo
from keptopen.families import family
from keptopen.games import Game
from keptopen.guarded import Sure
from keptopen.plays import moves
from gamesupport import CHAIN, NO_EVENTS, PLAYED, SlowGame, drawn_event, has_event_form, slow_lost
from support import ANY, DRAWN, FREE, GREAT, HALF, HALLS, LONG, NEVER, NO_HALLS, ODD, PAIR, ROW, SPLIT, TIED, TIGHT, VALUE, Case
from support import Draw, same, slow_breaks, slow_family, slow_fillings, slow_sound
from test_plays import NO_MS, as_number

METHODS = (
    "__init__", "MOST", "hall_now", "m_now", "filling_now", "broken_now", "moves_now", "state", "left_now", "advice", "things_now",
    "look", "shut", "apply", "barred", "tried", "undo", "do_all", "tally", "log", "__contains__", "__len__", "__iter__", "__eq__",
)


class Short(Game):
    """A game of few events."""

    MOST = 3


class Elsewhere(Game):
    """A game of a class of its own."""


class GameCase(Case):
    def shows(self, game, slow):
        """The game shows just what its events tell."""
        hall, events = slow.hall, slow.events
        filling = slow.filling(events)
        self.is_same((game.hall_now, game.m_now, game.filling_now), (hall, slow.m, filling))
        self.is_same(game.broken_now, tuple([k for k in range(len(hall[2])) if slow_breaks(hall, filling, k)]))
        self.is_same(game.moves_now, len([event for event in events if event[0] == "look"]))
        self.is_same((game.left_now, game.state()), (slow.left(events), slow.state(events)))
        self.is_same(game.log(), (("game", hall, slow.m),) + tuple(events))
        self.is_same((len(game), list(game)), (len(events), events))
        self.advises(game.advice(), slow)
        for chest in hall[0]:
            if chest in dict(filling) or len(filling) == slow.m or slow.state(events) == "caught":
                self.refuses(NotUsable("chest", chest), game.things_now, chest)
            else:
                self.is_same(game.things_now(chest), slow.things(events, chest))
                self.is_same(game.things_now(chest=chest), slow.things(events, chest))

    def advises(self, told, slow):
        """The advice is None, or one of those of [78]."""
        filling, left = slow.filling(slow.events), slow.left(slow.events)
        if left is None or left == 0:
            self.assertIs(told, None)
            return
        self.assertEqual((type(told), len(told)), (tuple, 2))
        away, chest = told
        self.assertTrue(away in dict(filling) if away is not None else len(filling) < slow.m)
        self.assertNotIn(chest, dict(filling))
        stays = tuple([pair for pair in filling if pair[0] != away])
        for thing in range(slow.hall[1][slow.hall[0].index(chest)]):
            longer = tuple(sorted(stays + ((chest, thing),)))
            self.assertLessEqual(slow_lost(slow.hall, slow.m)[longer], left - 1)


class Drawn(GameCase):
    """Games of drawn events, beside the words of the document."""

    def test_drawn_games(self):
        reasons, many = {}, 0
        for seed, hall in enumerate(PLAYED):
            for m in range(1, min(len(hall[0]), 3) + 2):
                for most in (24, 5):
                    draw = Draw(seed * 10 + m)
                    game, slow = (Game if most == 24 else Shorter)(hall, m), SlowGame(hall, m, most)
                    calls = 0
                    for _ in range(30):
                        calls += self.one_call(draw, game, slow, reasons)
                        self.shows(game, slow)
                        self.is_same(game.tally(), (calls, calls))
                        many += 1
        self.assertEqual(set(reasons), {None, "shape", "full", "caught", "chest", "open", "many", "thing", "shut"})
        self.assertGreater(min(reasons.values()), 10, reasons)

    def one_call(self, draw, game, slow, reasons):
        """Calls one thing of a game; how many calls count."""
        events = [drawn_event(draw, slow.hall, slow.filling(slow.events)) for _ in range(1 + draw.below(3))]
        kind = draw.below(7)
        if kind == 0:
            self.undone(game, slow)
            return 1
        if kind == 1:
            self.done(game, slow, events, draw.below(2) == 1)
            return 1
        if kind == 2:
            self.is_tried(game, slow, events)
            return 0
        reason = slow.reason(slow.events, events[0])
        reasons[reason] = reasons.get(reason, 0) + 1
        self.is_same(game.barred(events[0]), reason)
        self.is_same(game.barred(event=events[0]), reason)
        self.called(game, slow, events[0], reason, kind)
        return 1

    def called(self, game, slow, event, reason, kind):
        """Calls apply, or look and shut where the form lets it."""
        call, args = game.apply, (event,)
        if kind > 3 and type(event) is tuple and len(event) == 3 and event[0] == "look":
            call, args = game.look, event[1:]
        elif kind > 3 and type(event) is tuple and len(event) == 2 and event[0] == "shut":
            call, args = game.shut, event[1:]
        if reason is None:
            slow.events.append(event)
            self.is_same(call(*args), slow.state(slow.events))
        else:
            self.refuses(InvalidEvent(event, reason), call, *args)

    def undone(self, game, slow):
        """Calls undo."""
        if slow.events:
            self.is_same(game.undo(), slow.events.pop())
        else:
            self.refuses(NothingToUndo(0), game.undo)

    def done(self, game, slow, events, keep):
        """Calls do_all."""
        reached, reason = slow.run(events)
        if reason is None:
            self.is_same(game.do_all(*events, keep=keep), len(events))
            slow.events = reached
            return
        error = InvalidEvent(events[len(reached) - len(slow.events)], reason)
        self.refuses(error, game.do_all, *events, keep=keep)
        if keep:
            slow.events = reached

    def is_tried(self, game, slow, events):
        """Calls tried."""
        reached, reason = slow.run(events)
        if reason is None:
            right = (slow.filling(reached), slow.left(reached), slow.state(reached))
            self.is_same(game.tried(*events), right)
        else:
            self.refuses(InvalidEvent(events[len(reached) - len(slow.events)], reason), game.tried, *events)


class Shorter(Game):
    """A game of five events."""

    MOST = 5


class Making(GameCase):
    def test_new_games(self):
        for hall in HALLS[:5] + HALLS[6:] + DRAWN[:20] + TIGHT[:5]:
            for m in range(1, len(hall[0]) + 2):
                for game in (Game(hall, m), Game(m=m, hall=hall), Elsewhere(hall, m)):
                    self.shows(game, SlowGame(hall, m))
                    self.is_same((game.tally(), game.filling_now, game.left_now), ((0, 0), (), moves(hall, m)))
        self.is_same((Game(PAIR, 10**59).m_now, Game(PAIR, 10**59).left_now), (10**59, 2))

    def test_most(self):
        self.is_same((Game.MOST, Game(PAIR, 1).MOST, Short.MOST, Elsewhere(PAIR, 1).MOST), (24, 24, 3, 24))
        for made, most in ((Game, 24), (Short, 3), (Elsewhere, 24)):
            game = made(ROW, 2)
            for k in range(most):
                self.is_same(game.apply(("shut", "a") if k % 2 else ("look", "a", 0)), "going")
            for event in (("look", "a", 0), ("shut", "a"), ("look", "q", 9)):
                self.refuses(InvalidEvent(event, "full"), game.apply, event)
                self.is_same(game.barred(event), "full")
                self.refuses(InvalidEvent(event, "full"), game.tried, event)
            self.refuses(InvalidEvent(("shut",), "shape"), game.apply, ("shut",))
            self.is_same((len(game), game.undo() in game), (most, True))
            self.is_same(game.barred(("look", "b", 0)), None)
            self.refuses(InvalidEvent(("shut", "b"), "full"), game.do_all, ("look", "b", 0), ("shut", "b"))

    def test_full_ahead_of_caught(self):
        game = Short(PAIR, 2)
        self.is_same(game.do_all(("look", "b", 1), ("shut", "b"), ("look", "a", 1)), 3)
        self.is_same((game.state(), game.barred(("shut", "a"))), ("caught", "full"))
        game.undo()
        self.is_same(game.apply(("look", "b", 0)), "caught")

    def test_wrong_values(self):
        for made in (Game, Short):
            self.refuses_parameter(made, {"hall": PAIR, "m": 2}, "hall", NO_HALLS, "hall")
            self.refuses_parameter(made, {"hall": PAIR, "m": 2}, "m", NO_MS, "m", VALUE)

    def test_each_method_is_defined_in_the_class(self):
        for name in METHODS:
            self.assertIn(name, vars(Game))

    def test_properties_are_not_set(self):
        for name in ("hall_now", "m_now", "filling_now", "broken_now", "moves_now", "left_now"):
            with self.assertRaises(AttributeError):
                setattr(Game(PAIR, 1), name, None)


class Reasons(GameCase):
    def both(self, game, event, reason):
        """The event is refused for this reason by each method, and nothing changes."""
        before = (game.log(), game.filling_now)
        self.is_same(game.barred(event), reason)
        for call in (game.apply, game.tried, game.do_all):
            self.refuses(InvalidEvent(event, reason), call, event)
        self.refuses(InvalidEvent(event, reason), game.do_all, event, keep=True)
        self.refuses(InvalidEvent(event, reason), game.apply, event=event)
        if has_event_form(event) and event[0] == "look":
            self.refuses(InvalidEvent(event, reason), game.look, *event[1:])
            self.refuses(InvalidEvent(event, reason), game.look, thing=event[2], chest=event[1])
        elif has_event_form(event):
            self.refuses(InvalidEvent(event, reason), game.shut, event[1])
            self.refuses(InvalidEvent(event, reason), game.shut, chest=event[1])
        self.is_same((game.log(), game.filling_now), before)

    def test_shape(self):
        for game in (Game(CHAIN, 2), Game(NEVER, 1)):
            for value in NO_EVENTS:
                self.both(game, value, "shape")
        # Ahead of all else.
        game = Short(PAIR, 1)
        game.look("a", 1)
        for value in NO_EVENTS[:30]:
            self.both(game, value, "shape")

    def test_any_values_of_look_and_shut(self):
        game = Game(CHAIN, 2)
        for value in ANY:
            if not (type(value) is int and value in (0, 1)):
                right = type(value) is int and value >= 0
                self.refuses(InvalidEvent(("look", "a", value), "thing" if right else "shape"), game.look, "a", value)
            if value not in ("a", "b"):
                named = type(value) is str and value in ("z", "abcdefgh")
                self.refuses(InvalidEvent(("look", value, 0), "chest" if named else "shape"), game.look, value, 0)
                self.refuses(InvalidEvent(("shut", value), "chest" if named else "shape"), game.shut, value)
        self.is_same((len(game), game.filling_now), (0, ()))

    def test_the_very_event_is_told(self):
        game, event = Game(CHAIN, 2), ["look", "a", 0]
        with self.assertRaises(InvalidEvent) as caught:
            game.apply(event)
        self.assertIs(caught.exception.event, event)

    def test_caught(self):
        game = Game(PAIR, 2)
        self.is_same(game.look("a", 1), "caught")
        for event in (("look", "b", 0), ("shut", "a"), ("shut", "b"), ("look", "a", 0), ("look", "q", 0), ("look", "b", 9)):
            self.both(game, event, "caught")

    def test_chests(self):
        for m in (1, 2):
            game = Game(PAIR, m)
            for event in (("look", "c", 0), ("shut", "c"), ("look", "look", 10**59)):
                self.both(game, event, "chest")

    def test_open_many_thing_shut(self):
        game = Game(CHAIN, 2)
        self.both(game, ("shut", "b"), "shut")
        self.both(game, ("look", "b", 2), "thing")
        game.look("b", 0)
        self.both(game, ("look", "b", 0), "open")
        self.both(game, ("look", "b", 7), "open")
        self.both(game, ("shut", "c"), "shut")
        game.look("c", 0)
        # The first reason counts.
        self.both(game, ("look", "c", 9), "open")
        self.both(game, ("look", "d", 9), "many")
        self.both(game, ("look", "d", 0), "many")
        self.both(game, ("look", "q", 0), "chest")
        self.both(game, ("shut", "d"), "shut")
        self.is_same([game.shut("c"), game.look("d", 0), game.left_now], ["going", "caught", 0])

    def test_shut_and_looked_into_again(self):
        game = Game(CHAIN, 2)
        told = [game.look("b", 0), game.shut("b"), game.look("b", 1), game.filling_now, game.moves_now, len(game)]
        self.is_same(told, ["going", "going", "going", (("b", 1),), 2, 3])


class Left(GameCase):
    def test_each_filling_that_can_stand_open(self):
        for hall in PLAYED[:20]:
            for m in range(1, len(hall[0]) + 2):
                lost = slow_lost(hall, m)
                for filling in slow_fillings(hall):
                    if len(filling) <= m:
                        game = Game(hall, m)
                        for chest, thing in filling:
                            if game.state() == "going":
                                game.look(chest, thing)
                        if game.filling_now == filling:
                            self.is_same(game.left_now, lost.get(filling))
                            self.advises(game.advice(), self.slow(game))

    def slow(self, game):
        """The slow game with the events of a game."""
        slow = SlowGame(game.hall_now, game.m_now)
        slow.events = list(game)
        return slow

    def test_lost_exactly_if_in_no_family(self):
        for hall in PLAYED:
            for m in range(1, len(hall[0]) + 1):
                kept = slow_family(hall, m) or ()
                for filling in slow_fillings(hall):
                    if len(filling) <= m:
                        self.assertEqual(filling in slow_lost(hall, m), filling not in kept)
        self.is_same(Game(ODD, 2).tried(("look", "a", 0), ("look", "b", 0))[1:], (None, "going"))

    def test_whoever_follows_advice_catches_within_what_is_left(self):
        for hall in PLAYED:
            for m in range(1, len(hall[0]) + 1):
                game = Game(hall, m)
                if game.left_now is not None:
                    self.caught_by_advice(game, game.left_now)

    def caught_by_advice(self, game, left):
        """Whatever the keeper says, it is caught within so many looks."""
        if game.state() == "caught":
            return
        self.assertGreater(left, 0)
        self.assertLessEqual(game.left_now, left)
        away, chest = game.advice()
        if away is not None:
            game.shut(away)
        for thing in range(game.hall_now[1][game.hall_now[0].index(chest)]):
            game.look(chest, thing)
            self.caught_by_advice(game, left - 1)
            game.undo()
        if away is not None:
            game.undo()

    def test_shutting_and_greater_m(self):
        for hall in PLAYED[:25]:
            for m in range(1, len(hall[0]) + 1):
                lost = slow_lost(hall, m)
                for filling in slow_fillings(hall):
                    if 0 < len(filling) <= m:
                        game = Game(hall, m)
                        if slow_sound(hall, filling[:-1]):
                            game.do_all(*[("look", *pair) for pair in filling])
                            before = game.left_now
                            self.assertLessEqual(as_number(Game(hall, m + 1).tried(*game)[1]), as_number(before))
                            if before != 0:
                                game.shut(filling[0][0])
                                self.assertGreaterEqual(as_number(game.left_now), as_number(before))
                self.assertEqual(() in lost, len(lost) == len([one for one in slow_fillings(hall) if len(one) <= m]))

    def test_things_where_all_is_lost(self):
        for hall in PLAYED:
            for m in range(1, len(hall[0]) + 1):
                if Game(hall, m).left_now is not None:
                    for chest in hall[0]:
                        self.is_same(Game(hall, m).things_now(chest), ())

    def test_things_of_the_greatest_family(self):
        game = Game(ODD, 2)
        kept = family(ODD, 2)
        game.look("a", 1)
        for chest in "bc":
            things = [thing for thing in (0, 1) if (("a", 1), (chest, thing)) in kept]
            self.is_same(game.things_now(chest), tuple(things))

    def test_wrong_chests(self):
        game = Game(CHAIN, 2)
        wrong = [value for value in ANY if value not in ("a", "b")] + ["q", ("a",), "aa", 0]
        self.refuses_parameter(game.things_now, {"chest": "a"}, "chest", wrong, "chest", VALUE)
        game.look("b", 0)
        self.refuses_parameter(game.things_now, {"chest": "c"}, "chest", ["b"] + wrong, "chest", VALUE)
        game.look("c", 0)
        # Two stand open.
        self.refuses_parameter(game.things_now, {"chest": "c"}, "chest", ["a", "b", "c", "d"], "chest", VALUE)
        game.shut("b")
        game.look("d", 1)
        game = Game(CHAIN, 3)
        game.look("a", 1)
        # It is caught.
        self.refuses_parameter(game.things_now, {"chest": "c"}, "chest", ["a", "b", "c", "d"], "chest", VALUE)

    def test_as_many_fillings_as_the_limits_let(self):
        # 1,545 fillings of at most three chests, all of them sound, and 729 of any number.
        hall = (tuple("abcdef"), (4,) * 6, ())
        game = Game(hall, 3)
        self.is_same(game.do_all(("look", "a", 3), ("look", "b", 2)), 2)
        self.is_same((game.left_now, game.advice(), game.things_now("f")), (None, None, (0, 1, 2, 3)))
        game = Game((tuple("abcdef"), (2,) * 6, ((("f",), ()),)), 6)
        self.is_same((game.left_now, game.advice(), game.things_now("a")), (1, (None, "f"), ()))

    def test_great_halls(self):
        for hall in GREAT + (LONG,):
            for m in (1, 2, 3):
                game, draw = Game(hall, m), Draw(m)
                self.is_same(game.left_now, moves(hall, m))
                looks = 0
                while game.advice() is not None and len(game) < 23:
                    away, chest = game.advice()
                    if away is not None:
                        game.shut(away)
                    game.look(chest, draw.below(hall[1][0]))
                    looks += 1
                self.assertTrue(game.left_now is None or game.state() == "caught" or len(game) >= 23)
                if moves(hall, m) is not None:
                    self.assertLessEqual(looks, moves(hall, m))
                self.assertEqual(game.left_now is None, moves(hall, m) is None)


class Trying(GameCase):
    def test_tried(self):
        game = Game(CHAIN, 2)
        self.is_same(game.tried(), ((), 3, "going"))
        self.is_same(game.tried(("look", "b", 0)), ((("b", 0),), 2, "going"))
        self.is_same(game.tried(("look", "a", 1)), ((("a", 1),), 0, "caught"))
        events = (("look", "b", 0), ("look", "c", 0), ("shut", "b"), ("look", "d", 0))
        self.is_same(game.tried(*events), ((("c", 0), ("d", 0)), 0, "caught"))
        self.refuses(InvalidEvent(("shut", "c"), "caught"), game.tried, *events, ("shut", "c"), None)
        self.refuses(InvalidEvent(None, "shape"), game.tried, None, *events)
        self.refuses(InvalidEvent(("look", "d", 2), "many"), game.tried, *events[:2], ("look", "d", 2), None)
        self.is_same((game.tally(), len(game), game.filling_now), ((0, 0), 0, ()))

    def test_tried_counts_from_the_events(self):
        game = Short(ROW, 2)
        game.look("a", 0)
        self.is_same(game.tried(("shut", "a"), ("look", "a", 1)), ((("a", 1),), None, "going"))
        error = InvalidEvent(("shut", "a"), "full")
        self.refuses(error, game.tried, ("shut", "a"), ("look", "a", 1), ("shut", "a"))

    def test_do_all(self):
        events = (("look", "b", 0), ("look", "c", 0), ("shut", "b"))
        for keep in (True, False):
            game = Game(CHAIN, 2)
            self.is_same(game.do_all(keep=keep), 0)
            self.is_same(game.do_all(*events, keep=keep), 3)
            self.is_same((list(game), game.tally()), (list(events), (2, 2)))
        game = Game(CHAIN, 2)
        self.is_same((game.do_all(*events), game.do_all()), (3, 0))

    def test_do_all_refused(self):
        events = (("look", "b", 0), ("look", "c", 0), ("shut", "b"))
        wrong = (("look", "q", 0), ("shut", "a"), None, ("look", "b", 5))
        for told, reason in zip(wrong, ("chest", "shut", "shape", None)):
            for k in range(4):
                if reason is not None:
                    for keep in (True, False):
                        game = Game(CHAIN, 2)
                        game.look("a", 0)
                        game.shut("a")
                        self.refuses(InvalidEvent(told, reason), game.do_all, *events[:k], told, *events[k:], keep=keep)
                        stays = (("look", "a", 0), ("shut", "a")) + (events[:k] if keep else ())
                        self.is_same((tuple(game), game.tally()), (stays, (3, 3)))

    def test_without_keep_nothing_stays(self):
        for k in range(1, 4):
            game = Game(CHAIN, 2)
            game.look("a", 0)
            events = (("shut", "a"), ("look", "b", 0), ("look", "c", 0))[:k] + (("shut", "zz"),)
            self.refuses(InvalidEvent(("shut", "zz"), "chest"), game.do_all, *events)
            self.is_same((list(game), game.filling_now, game.tally()), ([("look", "a", 0)], (("a", 0),), (2, 2)))

    def test_keep(self):
        game = Game(CHAIN, 2)
        wrong = [value for value in ANY if type(value) is not bool] + [0, 1, "True", (True,), [False]]
        for value in wrong:
            self.refuses(NotUsable("keep", value), game.do_all, keep=value)
            self.refuses(NotUsable("keep", value), game.do_all, None, keep=value)
            self.refuses(NotUsable("keep", value), game.do_all, ("look", "a", 0), keep=value)
        self.is_same((len(game), game.tally()), (0, (3 * len(wrong), 3 * len(wrong))))

    def test_undo(self):
        game = Game(CHAIN, 2)
        self.refuses(NothingToUndo(0), game.undo)
        events = (("look", "b", 0), ("look", "c", 0), ("shut", "b"), ("look", "d", 1))
        game.do_all(*events)
        for k in range(4)[::-1]:
            self.is_same(game.undo(), events[k])
            self.is_same(list(game), list(events[:k]))
        self.is_same(game.filling_now, ())
        self.refuses(NothingToUndo(0), game.undo)

    def test_tally(self):
        game = Game(PAIR, 2)
        counted = (
            lambda: game.look("a", 0), lambda: game.look("a", 0), lambda: game.shut("b"), lambda: game.shut("a"), game.undo,
            lambda: game.apply(None), lambda: game.apply(("look", "b", 1)), lambda: game.do_all(("shut", "b"), ("shut", "b")),
            lambda: game.do_all(keep=None), lambda: game.look("b", 0), game.undo, game.undo, game.undo, game.undo,
            lambda: game.do_all(("look", "a", 0), ("look", "b", 0)), lambda: game.look([], {}),
        )
        for many, call in enumerate(counted, start=1):
            try:
                call()
            except KeepError:
                pass
            self.is_same(game.tally(), (many, many))
        others = (
            game.state, game.advice, lambda: game.things_now("b"), lambda: game.barred(None), lambda: game.tried(None), game.tried,
            game.tally, game.log, lambda: len(game), lambda: list(game), lambda: None in game, lambda: game == game,
            lambda: (game.left_now, game.filling_now, game.broken_now, game.moves_now, game.hall_now, game.m_now),
        )
        for call in others:
            try:
                call()
            except KeepError:
                pass
            self.is_same(game.tally(), (16, 16))

    def test_a_call_counts_as_finished_when_it_ends(self):
        told = []

        class Watched(Game):
            def state(self):
                told.append(self.tally())
                return Game.state(self)

        game = Watched(PAIR, 2)
        game.look("a", 0)
        self.is_same(game.tally(), (1, 1))
        self.assertLessEqual(set(told), {(1, 0)})


class Operators(GameCase):
    def test_in(self):
        game = Game(CHAIN, 2)
        game.do_all(("look", "b", 1), ("shut", "b"), ("look", "c", 0))
        events = (("look", "b", 1), ("shut", "b"), ("look", "c", 0))
        others = (("look", "b", True), ("look", "c", False), ["shut", "b"], ("shut", "c"), ("look", "b", 0), ("look", "c"), "shut b")
        for value in NO_EVENTS + events + others + (game, game.log()):
            self.assertIs(value in game, any(same(value, event) for event in events))
        game.undo()
        self.assertIs(("look", "c", 0) in game, False)

    def test_equal(self):
        events = (("look", "a", 0), ("shut", "a"))
        made = [(hall, m, told) for hall in (PAIR, ODD) for m in (1, 2) for told in ((), events[:1], events)]
        for one in made:
            for other in made:
                for kinds in ((Game, Game), (Game, Elsewhere), (Short, Game), (Short, Elsewhere)):
                    games = []
                    for kind, (hall, m, told) in zip(kinds, (one, other)):
                        game = kind(hall, m)
                        game.do_all(*told)
                        games.append(game)
                    self.assertIs(games[0] == games[1], one == other)
                    self.assertIs(games[0] != games[1], one != other)
            for value in ANY + (PAIR, Game(PAIR, 1).log()):
                self.assertIs(Game(PAIR, 1) == value, False)

    def test_tallies_do_not_count_for_equality(self):
        one, other = Game(PAIR, 2), Game(PAIR, 2)
        one.look("a", 0)
        one.undo()
        self.assertIs(one == other, True)
        one.look("b", 1)
        self.assertIs(one == other, False)
        other.apply(("look", "b", 1))
        self.assertIs(one == other, True)
        self.assertIs(Sure(PAIR, 1) == Game(PAIR, 1), True)
        self.assertIs(Game(PAIR, 1) == Sure(PAIR, 1), True)

    def test_results_belong_to_the_caller(self):
        game = Game(PAIR, 2)
        game.look("a", 0)
        told, log, filling = list(game), game.log(), game.filling_now
        told.append(None)
        game.shut("a")
        self.is_same((log[1:], filling, list(game)), ((("look", "a", 0),), (("a", 0),), [("look", "a", 0), ("shut", "a")]))


class Halls(GameCase):
    def test_edges(self):
        game = Game(NEVER, 1)
        self.is_same((game.left_now, game.advice(), game.things_now("a")), (1, (None, "a"), ()))
        self.is_same((game.look("a", 2), game.broken_now, game.left_now), ("caught", (0,), 0))
        game = Game(SPLIT, 2)
        self.is_same((game.left_now, game.look("b", 0), game.broken_now), (1, "caught", (1,)))
        game = Game(FREE, 5)
        self.is_same(game.do_all(("look", "a", 0), ("look", "b", 1), ("look", "c", 2)), 3)
        self.is_same((game.left_now, game.advice(), game.state()), (None, None, "going"))
        for chest in FREE[0]:
            self.refuses(NotUsable("chest", chest), game.things_now, chest)
        game = Game(HALF, 1)
        self.is_same((game.things_now("a"), game.things_now("b"), game.things_now("c")), ((0,), (0, 1), (0, 1, 2)))
        self.is_same(Game(TIED, 2).left_now, moves(TIED, 2))


if __name__ == "__main__":
    unittest.main()
