"""[88] and [89]: class Desk."""

import unittest

from keptopen.desk import Desk
from keptopen.errors import InvalidEvent, InvalidRow, KeepError, NotUsable, NothingToUndo
from keptopen.eventtexts import event_line, log_lines
from keptopen.games import Game
from gamesupport import CHAIN, PLAYED, drawn_event, has_event_form
from support import ANY, FREE, NEVER, PAIR, ROW, SPLIT, Case, Draw

ASKED = ("advice", "filling", "broken", "left", "moves", "state", "events", "log")


def start(hall, m):
    """The row that begins a game."""
    return "\n".join(log_lines((("game", hall, m),)))


def with_game(hall, m, *rows):
    """A desk with a game after these rows."""
    desk = Desk()
    for row in (start(hall, m),) + rows:
        desk.say(row)
    return desk


# These are no rows at any desk.
NO_ROWS = (
    "", " ", "\n", "undo ", " undo", "undo 1", "undo\n", "Undo", "redo", "look", "look a", "look a -1", "look a 00", "look a 0 ",
    "look A 0", "look a 0 0", "look  a 0", "shut", "shut a b", "shut a ", "shut A", "bars", "bars ", "bars look", "bars undo", "bars a",
    "thing a", "x a", "bars look a", "bars  look a 0", "bars bars look a 0", "bars look a 0\n", "bar look a 0",
    "x look a 0", "bars advice", "things", "things ", "things A", "things a b", "things  a", "things a ", "things abcdefghi", "things 0", "advice a", "advice ", "filling ", "broken 0", "left left",
    "moves ", "states", "state ", "events 1", "log 1", "log\n", "tally", "counts", "game", "game 1 1", "game 1 1\n", "game 5 2",
    "game 1 0\nchest a 1", "game 1 1\nchest a 0", "game 1 1\nchest a 1\n", "game 2 1\nchest a 1", "game 1 1\nchest a 1\nchest b 1",
    "game 1 1\nchest a 1\nlook a 0", "game 1 1\nchest a 1\nshut a", " game 1 1\nchest a 1", "game 1 1 \nchest a 1", "chest a 1",
    "look a 0\nlook b 0", "undo\nundo", "state\n", "things a\n", "-", "ok",
)


def slow_answer(game, row):
    """The answer to a row of a game that it knows, straight from [88] and [89]."""
    words = row.split(" ")
    if words[0] in ("look", "shut"):
        return game.apply(tuple(words[:2]) + tuple([int(word) for word in words[2:]]))
    if words[0] == "undo":
        return event_line(game.undo())
    if words[0] == "bars":
        return game.barred(tuple(words[1:3]) + tuple([int(word) for word in words[3:]])) or "-"
    if words[0] == "things":
        return " ".join([str(thing) for thing in game.things_now(words[1])]) or "-"
    if words[0] == "advice":
        return "-" if game.advice() is None else " ".join([chest or "-" for chest in game.advice()])
    if words[0] == "filling":
        return " ".join([chest + ":" + str(thing) for chest, thing in game.filling_now]) or "-"
    if words[0] == "log":
        return " / ".join([event_line(event) for event in game]) or "-"
    told = {"broken": game.broken_now, "left": game.left_now, "moves": game.moves_now, "state": game.state(), "events": len(game)}
    thing = told[words[0]]
    if thing is None or thing == ():
        return "-"
    return " ".join([str(one) for one in thing]) if isinstance(thing, tuple) else str(thing)


class Saying(Case):
    def test_drawn_rows(self):
        for seed, hall in enumerate(PLAYED):
            for m in (1, 2, 3):
                draw, desk, game = Draw(seed * 3 + m), Desk(), Game(hall, m)
                self.is_same(desk.say(start(hall, m)), "ok")
                for many in range(2, 40):
                    self.one_row(draw, desk, game, hall)
                    self.is_same(desk.counts(), (many, many))

    def one_row(self, draw, desk, game, hall):
        """Says one row to a desk that has a game like this one."""
        event = drawn_event(draw, hall, game.filling_now)
        kind = draw.below(10)
        row = ASKED[draw.below(len(ASKED))]
        if kind < 4 and has_event_form(event):
            row = ("bars " if kind == 0 else "") + event_line(event)
        elif kind == 4:
            row = "undo"
        elif kind < 7:
            row = "things " + (hall[0] + ("zz",))[draw.below(len(hall[0]) + 1)]
        try:
            right = slow_answer(game, row)
        except KeepError as error:
            self.refuses(error, desk.say, row)
        else:
            self.is_same(desk.say(row), right)

    def test_each_row(self):
        desk = with_game(CHAIN, 2)
        told = [desk.say(row) for row in ASKED + ("things b", "bars shut b", "bars look b 0")]
        # Any advice of the document's kind will do.
        self.assertIn(told[0], ["- b", "- c"])
        self.is_same(told[1:8], ["-", "-", "3", "0", "going", "0", "-"])
        self.is_same(told[8:], ["-", "shut", "-"])
        rows = ("look b 0", "look c 0", "advice", "shut b", "look d 1")
        self.is_same([desk.say(row=row) for row in rows], ["going", "going", "b d", "going", "caught"])
        told = [desk.say(row) for row in ASKED]
        self.is_same(told, ["-", "c:0 d:1", "3", "0", "3", "caught", "4", "look b 0 / look c 0 / shut b / look d 1"])
        self.is_same([desk.say("undo"), desk.say("events"), desk.say("undo"), desk.say("filling")], ["look d 1", "3", "shut b", "b:0 c:0"])
        self.is_same(desk.say("bars shut a"), "shut")

    def test_several_and_none(self):
        desk = with_game(SPLIT, 2)
        self.is_same([desk.say("things b"), desk.say("things a"), desk.say("advice")], ["-", "-", "- b"])
        self.is_same([desk.say("look b 0"), desk.say("broken"), desk.say("left")], ["caught", "1", "0"])
        self.is_same([desk.say("undo"), desk.say("look b 1"), desk.say("broken")], ["look b 0", "caught", "0 2"])
        desk = with_game(ROW, 2)
        self.is_same([desk.say("things c"), desk.say("left"), desk.say("advice"), desk.say("broken")], ["0 1 2", "-", "-", "-"])
        desk = with_game(PAIR, 1)
        self.is_same([desk.say("things a"), desk.say("things b")], ["0", "1"])
        desk = with_game(FREE, 10**59)
        self.is_same([desk.say("look b 1"), desk.say("filling"), desk.say("moves")], ["going", "b:1", "1"])

    def test_a_second_game(self):
        desk = with_game(CHAIN, 2, "look b 0")
        self.is_same([desk.say(start(PAIR, 1)), desk.say("events"), desk.say("things a")], ["ok", "0", "0"])
        self.is_same([desk.say(start(NEVER, 1)), desk.say("look a 2"), desk.say("left")], ["ok", "caught", "0"])
        self.is_same([desk.say(start(NEVER, 1)), desk.say("state"), desk.counts()], ["ok", "going", (10, 10)])

    def test_errors_of_the_game(self):
        desk = with_game(PAIR, 1)
        refused = (
            (InvalidEvent(("look", "c", 0), "chest"), "look c 0"), (InvalidEvent(("shut", "a"), "shut"), "shut a"),
            (InvalidEvent(("look", "a", 2), "thing"), "look a 2"), (NothingToUndo(0), "undo"), (NotUsable("chest", "c"), "things c"),
            (NotUsable("chest", "abcdefgh"), "things abcdefgh"),
        )
        for many, (error, row) in enumerate(refused, start=2):
            self.refuses(error, desk.say, row)
            self.is_same(desk.counts(), (many, many))
        desk.say("look a 1")
        self.refuses(InvalidEvent(("shut", "a"), "caught"), desk.say, "shut a")
        self.refuses(NotUsable("chest", "a"), desk.say, "things a")
        self.is_same([desk.say("bars shut a"), desk.say("bars look b 0"), desk.say("undo")], ["caught", "caught", "look a 1"])

    def test_a_full_game(self):
        desk = with_game(PAIR, 1, *("look a 0", "shut a") * 12)
        self.is_same([desk.say("events"), desk.say("moves"), desk.say("bars look a 0")], ["24", "12", "full"])
        self.refuses(InvalidEvent(("look", "a", 0), "full"), desk.say, "look a 0")
        self.is_same(desk.say("log"), " / ".join(["look a 0", "shut a"] * 12))


class Refusing(Case):
    def test_no_rows(self):
        for desk in (Desk(), with_game(PAIR, 2), with_game(PAIR, 2, "look a 1")):
            before = desk.counts()[0]
            for many, row in enumerate(NO_ROWS, start=1):
                with self.subTest(row=row):
                    self.refuses(InvalidRow(row), desk.say, row)
                    self.is_same(desk.counts(), (before + many, before + many))

    def test_values_of_other_kinds(self):
        values = [value for value in ANY if not isinstance(value, str)]
        values += [["undo"], ("state",), ("look", "a", 0), b"undo", 0, Game(PAIR, 1)]
        for desk in (Desk(), with_game(PAIR, 2)):
            for value in values:
                with self.assertRaises(InvalidRow) as caught:
                    desk.say(value)
                self.assertIs(caught.exception.row, value)
                with self.assertRaises(InvalidRow):
                    desk.say(row=value)
            many = desk.counts()[0]
            self.is_same(desk.counts(), (many, many))

    def test_without_a_game(self):
        desk = Desk()
        self.is_same(desk.counts(), (0, 0))
        rows = ASKED + ("undo", "look a 0", "shut a", "bars look a 0", "things a", "look zz 9")
        for row in rows:
            self.refuses(InvalidRow(row), desk.say, row)
        self.is_same(desk.counts(), (len(rows), len(rows)))
        self.is_same([desk.say(start(PAIR, 2)), desk.say("state"), desk.counts()], ["ok", "going", (len(rows) + 2,) * 2])

    def test_a_log_with_events_is_no_row(self):
        for events in ((("look", "a", 0),), (("shut", "b"),), (("look", "a", 0), ("shut", "a"))):
            row = "\n".join(log_lines((("game", PAIR, 2),) + events))
            self.refuses(InvalidRow(row), Desk().say, row)
            desk = with_game(CHAIN, 2, "look b 0")
            self.refuses(InvalidRow(row), desk.say, row)
            self.is_same(desk.say("log"), "look b 0")

    def test_one_line_otherwise(self):
        lines = log_lines((("game", PAIR, 2),))
        for k, line in enumerate(lines):
            for other in (line + " ", line + " x", " " + line, line.upper(), ""):
                row = "\n".join(lines[:k] + [other] + lines[k + 1 :])
                self.refuses(InvalidRow(row), Desk().say, row)
                row = "\n".join(lines[:k] + lines[k + 1 :])
                self.refuses(InvalidRow(row), Desk().say, row)


class Desks(Case):
    def test_each_one_has_its_own_game(self):
        one, other = with_game(PAIR, 2, "look a 0"), with_game(PAIR, 2)
        self.is_same([one.say("events"), other.say("events"), one.counts(), other.counts()], ["1", "0", (3, 3), (2, 2)])

    def test_each_method_is_defined_in_the_class(self):
        for name in ("__init__", "say", "counts"):
            self.assertIn(name, vars(Desk))
        with self.assertRaises(TypeError):
            Desk(None)


if __name__ == "__main__":
    unittest.main()
