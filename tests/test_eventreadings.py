"""[87] and [90]: read_event, read_log."""

import unittest

from keptopen.errors import InvalidText, NotUsable
from keptopen.eventreadings import read_event, read_log
from keptopen.eventtexts import event_line, log_lines
from keptopen.games import Game
from gamesupport import CHAIN, PLAYED, SlowGame, drawn_event
from support import ANY, DRAWN, HALLS, MANY, PAIR, TIGHT, Case, Draw
from test_gamelogs import EVENTS, START
from test_hallreadings import SIXTY

LINES = ["game 5 2", "chest a 2", "chest b 2", "seal a 0", "seal a,b 0,0 1,1", "seal b 1", "look a 0", "shut a", "look b 1"]
NO_NAMES = ("", "A", "abcdefghi", "1", "a,b", "-", "a_", "a\n", "\na")
NO_NUMBERS = ("", "01", "00", "-1", "+1", "1.0", "a", "1,", "0x1", "1" + SIXTY, "0" + SIXTY, "1\n", "\n", "1_0")


class ReadEvent(Case):
    def wrong(self, line, field):
        with self.subTest(line=line):
            self.refuses(InvalidText(0, field), read_event, line)
            self.refuses(InvalidText(0, field), read_event, line=line)

    def test_there_and_back(self):
        events = EVENTS + (("look", "abcdefgh", 10**59), ("look", "look", 0), ("shut", "shut"), ("look", "a", int(SIXTY)))
        for event in events:
            self.is_same(read_event(event_line(event)), event)
            self.is_same(read_event(line=event_line(event)), event)
        for line in ("look a 0", "look a 10", "shut zz", "look a " + SIXTY):
            self.is_same(event_line(read_event(line)), line)

    def test_first_words(self):
        for word in ("", " ", "Look", "looks", "open", "undo", "0", "a", "look\n", "\nshut", "-"):
            self.wrong(word, 0)
            self.wrong(word + " a 0", 0)
            self.wrong(word + " a", 0)
        self.wrong(" look a 0", 0)

    def test_names(self):
        for name in NO_NAMES:
            self.wrong("look " + name, 1)
            self.wrong("look " + name + " 0", 1)
            self.wrong("look " + name + " x y", 1)
            self.wrong("shut " + name, 1)
            self.wrong("shut " + name + " a", 1)
        self.wrong("look", 1)
        self.wrong("shut", 1)
        self.wrong("look  a 0", 1)
        self.wrong("shut ", 1)

    def test_numbers(self):
        for number in NO_NUMBERS:
            self.wrong("look a " + number, 2)
            self.wrong("look a " + number + " 0", 2)
        self.wrong("look a", 2)
        self.wrong("look a  0", 2)

    def test_too_many_words(self):
        for more in (" ", " 0", " a", " \n"):
            self.wrong("look a 0" + more, 3)
            self.wrong("look a 0" + more + " b", 3)
            self.wrong("shut a" + more, 2)
        self.wrong("shut a 0", 2)

    def test_newlines_belong_to_their_words(self):
        self.wrong("look a 0\nshut a", 2)
        self.wrong("shut a\nshut b", 1)
        self.wrong("look\na 0", 0)
        self.wrong("look a\n0", 1)

    def test_no_strings(self):
        wrong = [value for value in ANY if not isinstance(value, str)] + [["look a 0"], ("shut", "a"), ("look", "a", 0), b"shut a"]
        self.refuses_parameter(read_event, {"line": "shut a"}, "line", wrong, "line")


class ReadLog(Case):
    def wrong(self, lines, k, field):
        with self.subTest(lines=lines):
            self.refuses(InvalidText(k, field), read_log, lines)
            self.refuses(InvalidText(k, field), read_log, lines=lines)

    def test_there_and_back(self):
        for hall in HALLS + DRAWN + TIGHT + (MANY, CHAIN):
            for m in (1, 3, 10**59, int(SIXTY)):
                for events in ((), EVENTS, EVENTS[::-1] * 20, (("look", "zzzzzzzz", 10**59), ("shut", "q"))):
                    log = (("game", hall, m),) + events
                    self.is_same(read_log(log_lines(log)), log)
                    self.is_same(log_lines(read_log(lines=log_lines(log))), log_lines(log))
        self.is_same(read_log(LINES), (START,) + EVENTS)
        self.is_same(read_log(["game 1 1", "chest a 1"]), (("game", (("a",), (1,), ()), 1),))

    def test_logs_of_games(self):
        for seed, hall in enumerate(PLAYED):
            draw, game, slow = Draw(seed), Game(hall, 2), SlowGame(hall, 2)
            for _ in range(15):
                event = drawn_event(draw, hall, slow.filling(slow.events))
                if slow.reason(slow.events, event) is None:
                    slow.events.append(event)
                    game.apply(event)
            self.is_same(read_log(log_lines(game.log())), game.log())

    def test_the_first_line(self):
        for word in ("", "Game", "games", "look", "chest", "5", " "):
            self.wrong([word + LINES[0][4:]] + LINES[1:], 0, 0)
            self.wrong([word], 0, 0)
        for field, place in ((1, 1), (2, 2)):
            for number in NO_NUMBERS + ("0",):
                if "\n" not in number:
                    words = ["game", "5", "2"]
                    words[place] = number
                    self.wrong([" ".join(words)] + LINES[1:], 0, field)
                    self.wrong([" ".join(words) + " 1"] + LINES[1:], 0, field)
                    # Ahead of too few lines, and of wrong ones.
                    self.wrong([" ".join(words)], 0, field)
                    self.wrong([" ".join(words), "x", "y"], 0, field)
        self.wrong(["game"], 0, 1)
        self.wrong(["game "] + LINES[1:], 0, 1)
        self.wrong(["game 5"] + LINES[1:], 0, 2)
        self.wrong(["game 0"] + LINES[1:], 0, 1)
        self.wrong(["game 5  2"] + LINES[1:], 0, 2)
        self.wrong(["game 5 2 "] + LINES[1:], 0, 3)
        self.wrong(["game 5 2 2"], 0, 3)
        self.wrong(["game 9 2 2"] + LINES[1:], 0, 3)
        self.wrong([" game 5 2"] + LINES[1:], 0, 0)
        self.wrong([], 0, 0)
        self.wrong([""], 0, 0)

    def test_too_few_lines(self):
        for many in range(1, 6):
            self.wrong(LINES[:many], many, 0)
            # Ahead of what is wrong in the lines that are there.
            self.wrong([LINES[0]] + ["x"] * (many - 1), many, 0)
        self.wrong(["game 9 2"] + LINES[1:], 9, 0)
        self.wrong(["game " + SIXTY + " 2"] + LINES[1:], 9, 0)
        self.is_same(len(read_log(LINES[:6])), 1)

    def test_lines_of_the_hall(self):
        for k in range(1, 6):
            for line, field in (("", 0), ("chests", 0), ("x a 2", 0), (" " + LINES[k], 0), ("look a 0", 0)):
                self.wrong(LINES[:k] + [line] + LINES[k + 1 :], k, field)
        self.wrong(LINES[:1] + ["chest a 0"] + LINES[2:], 1, 2)
        self.wrong(LINES[:2] + ["chest a 2"] + LINES[3:], 2, 1)
        self.wrong(LINES[:2] + ["chest b 02"] + LINES[3:], 2, 2)
        self.wrong(LINES[:3] + ["seal c 0"] + LINES[4:], 3, 1)
        self.wrong(LINES[:3] + ["seal a 2"] + LINES[4:], 3, 2)
        self.wrong(LINES[:4] + ["seal a,b 1,1 0,0"] + LINES[5:], 4, 3)
        self.wrong(LINES[:5] + ["chest c 2"] + LINES[6:], 5, 0)
        self.wrong(LINES[:5] + ["seal b 1 "] + LINES[6:], 5, 3)
        # By N alone, whatever the lines look like.
        self.wrong(["game 4 2"] + LINES[1:], 5, 0)
        self.wrong(["game 6 2"] + LINES[1:], 6, 0)
        self.wrong(["game 1 2"] + LINES[1:], 2, 0)

    def test_lines_of_events(self):
        for k in range(6, 9):
            wrong = (
                ("", 0), ("chest c 1", 0), ("look", 1), ("look A 0", 1), ("look a", 2), ("look a 00", 2), ("look a 0 0", 3),
                ("shut", 1), ("shut a b", 2), ("look a " + "1" + SIXTY, 2), ("undo", 0), ("shut a ", 2),
            )
            for line, field in wrong:
                self.wrong(LINES[:k] + [line] + LINES[k + 1 :], k, field)
                self.wrong(LINES[:k] + [line, "x"] + LINES[k:], k, field)
        self.wrong(LINES + [""], 9, 0)

    def test_nothing_else_is_checked(self):
        told = read_log(LINES[:6] + ["shut zz", "look a 99", "look a 99"])
        self.is_same(told, (START, ("shut", "zz"), ("look", "a", 99), ("look", "a", 99)))

    def test_one_word_otherwise(self):
        # Each line with a blank more, without a blank, and with a word more is refused at this line.
        for k, line in enumerate(LINES):
            for other in (line + " ", " " + line, line.replace(" ", "  ", 1), line.replace(" ", "", 1), line + " x"):
                with self.assertRaises(InvalidText) as caught:
                    read_log(LINES[:k] + [other] + LINES[k + 1 :])
                self.assertEqual(caught.exception.line, k)

    def test_no_lists_of_strings(self):
        wrong = list(ANY) + [tuple(LINES), "\n".join(LINES), [LINES], LINES + [None], [1], [None], [["game 1 1"]], [("game",)]]
        wrong = [value for value in wrong if value not in ([], ["a"], ["a", "b"])]
        # Whatever the other lines write.
        wrong += [LINES[:3] + ["chest c 1\nseal a 0"] + LINES[5:], ["\n"], ["x", "y\n"], ["x", 0], LINES + ["shut a\n"], [b"game 1 1"]]
        wrong += [["game 1 1", "chest a 1", True], ["", None], {"game 1 1": 0}]
        self.refuses_parameter(read_log, {"lines": LINES}, "lines", wrong, "lines")
        for value in ([], ["a"], ["a", "b"]):
            self.wrong(value, 0, 0)

    def test_the_list_does_not_change(self):
        lines = list(LINES)
        read_log(lines)
        self.is_same(lines, LINES)
        self.refuses(NotUsable("lines", -1), read_log, tuple(lines))
        self.is_same(read_log(LINES)[0][1], PAIR)


if __name__ == "__main__":
    unittest.main()
