"""[6] and [35]: lets_play."""

import unittest

from keptopen.errors import InvalidPaper
from keptopen.families import family
from keptopen.playchecker import lets_play
from support import ALONE, ANY, FREE, MANY, NEVER, NO_HALLS, ODD, PAIR, ROW, TRIO, VALUE, Case
from test_plays import NO_MS

A0, A1, B0, B1 = (("a", 0),), (("a", 1),), (("b", 0),), (("b", 1),)
TOP = ((), "a", (0, None))
ROWS = ((A0, "b", (None, None)), TOP)
# Whatever a and b hold, c breaks a seal of TRIO.
UNLIKE_ROWS = (
    ((("a", 0), ("b", 1)), "c", (None, None)),
    ((("a", 1), ("b", 0)), "c", (None, None)),
    (A0, "b", (None, 0)),
    (A1, "b", (1, None)),
    ((), "a", (2, 3)),
)


class PlayCase(Case):
    def wrong(self, hall, m, thing, word, at):
        with self.subTest(thing=thing):
            self.refuses(InvalidPaper(word, at), lets_play, hall, m, thing)
            self.refuses(InvalidPaper(word, at), lets_play, thing=thing, m=m, hall=hall)

    def wrong_rows(self, hall, m, rows, word, at):
        self.wrong(hall, m, ("caught", rows), word, at)

    def wrong_family(self, hall, m, fillings, word, at):
        self.wrong(hall, m, ("kept", fillings), word, at)


class Shapes(PlayCase):
    def test_wrong_values(self):
        good = {"hall": PAIR, "m": 2, "thing": ("caught", ROWS)}
        self.refuses_parameter(lets_play, good, "hall", NO_HALLS, "hall")
        self.refuses_parameter(lets_play, good, "m", NO_MS, "m", VALUE)

    def test_shape(self):
        for value in ANY:
            self.wrong(PAIR, 2, value, "shape", -1)
            self.wrong(PAIR, 2, (value, ROWS), "shape", -1)
            if type(value) is not tuple:
                self.wrong(PAIR, 2, ("caught", value), "shape", -1)
                self.wrong(PAIR, 2, ("kept", value), "shape", -1)
        for value in (("caught",), ("caught", ROWS, ()), ["caught", ROWS], ("caught", list(ROWS)), ("keptt", ()), ("Caught", ROWS)):
            self.wrong(PAIR, 2, value, "shape", -1)


class Caught(PlayCase):
    def test_right_rows(self):
        self.is_same(lets_play(PAIR, 2, ("caught", ROWS)), 2)
        self.is_same(lets_play(thing=("caught", ROWS), m=2, hall=PAIR), 2)
        self.is_same(lets_play(PAIR, 10**59, ("caught", ROWS)), 2)
        self.is_same(lets_play(NEVER, 1, ("caught", (((), "a", (None,) * 3),))), 1)
        self.is_same(lets_play(TRIO, 3, ("caught", UNLIKE_ROWS)), 3)

    def test_moves_go_by_the_grounds_of_the_last_row(self):
        # Rows that the last one does not need do not count.
        more = ROWS[:1] + ((B1, "a", (0, None)), TOP, ((B1, "a", (1, None))), ((), "a", (0, None)))
        self.is_same(lets_play(PAIR, 2, ("caught", more)), 2)
        deep = (ROWS[0], TOP, (B1, "a", (1, None)), (B0, "a", (2 - 1, 1)), ((), "b", (3, 2)))
        self.is_same(lets_play(PAIR, 2, ("caught", deep)), 4)
        # Row 2 lies on the longer way.
        both = (ROWS[0], TOP, ((), "a", (1, None)), ((), "a", (0, 2)))
        self.is_same(lets_play(PAIR, 2, ("caught", both)), 4)

    def test_grounds_where_both_fit(self):
        # A thing that breaks a seal may have an earlier row, too.
        self.is_same(lets_play(PAIR, 2, ("caught", (ROWS[0], ((), "a", (0, None)), ((), "a", (0, 1))))), 3)
        # A row may have a filling that is not sound.
        self.is_same(lets_play(PAIR, 2, ("caught", ((A1, "b", (None, None)), ROWS[0], ((), "a", (1, 0))))), 2)

    def test_row(self):
        wrong = (
            None, 1, (), (A0, "b"), (A0, "b", (None, None), ()), [A0, "b", (None, None)], (A0, "c", (None, None)),
            (A0, None, (None, None)), (A0, True, (None, None)), (A0, ("b",), (None, None)), (A0, ["b"], (None, None)),
            (A0, "b", [None, None]), (A0, "b", None), ((("a", 2),), "b", (None, None)), ((("a", False),), "b", (None, None)),
            ([("a", 0)], "b", (None, None)), (None, "b", (None, None)), ((("c", 0),), "b", (None, None)), (A0, "bb", (None, None)),
            ((("b", 0), ("a", 0)), "b", (None, None)),
        )
        for row in wrong:
            self.wrong_rows(PAIR, 2, (row,), "row", 0)
            self.wrong_rows(PAIR, 2, ROWS + (row,), "row", 2)

    def test_many(self):
        self.wrong_rows(PAIR, 1, ROWS, "many", 0)
        self.wrong_rows(PAIR, 1, (TOP[:2] + ((None, None),),), "sound", (0, 0))
        self.wrong_rows(TRIO, 2, UNLIKE_ROWS, "many", 0)
        self.wrong_rows(PAIR, 2, ROWS + (((("a", 0), ("b", 0)), "a", ()),), "many", 2)

    def test_chest(self):
        self.wrong_rows(PAIR, 2, ((A0, "a", (None, None)), TOP), "chest", 0)
        self.wrong_rows(PAIR, 2, ROWS + ((B1, "b", ()),), "chest", 2)
        # By an m beyond the chests a whole filling has too few chests to be one too many.
        self.wrong_rows(PAIR, 3, ((A0 + B0, "b", (None, None)),), "chest", 0)
        self.wrong_rows(PAIR, 2, ((A0 + B0, "b", (None, None)),), "many", 0)

    def test_grounds(self):
        for grounds in ((), (None,), (None, None, None)):
            self.wrong_rows(PAIR, 2, ((A0, "b", grounds), TOP), "grounds", 0)
        self.wrong_rows(PAIR, 2, ROWS + (((), "b", (True,)),), "grounds", 2)

    def test_ground(self):
        for value in (1, 2, -1, True, False, "0", (), (0,), [0], 10**59):
            self.wrong_rows(PAIR, 2, ROWS[:1] + (((), "a", (value, None)),), "ground", (1, 0))
            self.wrong_rows(PAIR, 2, ROWS[:1] + (((), "a", (0, value)),), "ground", (1, 1))
        self.wrong_rows(PAIR, 2, ((A0, "b", (0, None)),), "ground", (0, 0))

    def test_part(self):
        self.wrong_rows(PAIR, 2, ROWS[:1] + (((), "a", (0, 0)),), "part", (1, 1))
        self.wrong_rows(PAIR, 2, ROWS[:1] + ((B0, "a", (0, 0)), TOP), "part", (1, 1))
        self.is_same(lets_play(PAIR, 2, ("caught", ROWS[:1] + ((B1, "a", (0, None)), TOP))), 2)
        self.wrong_rows(PAIR, 2, ROWS[:1] + ((B1, "a", (0, None)), ((), "b", (0, 1))), "part", (2, 0))

    def test_sound(self):
        self.wrong_rows(PAIR, 2, ROWS[:1] + (((), "a", (None, None)),), "sound", (1, 0))
        self.wrong_rows(PAIR, 2, ROWS[:1] + (((), "b", (None, None)),), "sound", (1, 1))
        self.wrong_rows(TRIO, 3, UNLIKE_ROWS[:2] + ((A0, "b", (None, None)),), "sound", (2, 1))

    def test_last(self):
        self.wrong_rows(PAIR, 2, (), "last", -1)
        self.wrong_rows(PAIR, 2, ROWS[:1], "last", -1)
        self.wrong_rows(PAIR, 2, ROWS + (ROWS[0],), "last", -1)

    def test_the_first_of_two_faults(self):
        self.wrong_rows(PAIR, 1, ((A0, "a", ()), None), "many", 0)
        self.wrong_rows(PAIR, 2, ((A0, "a", ()), None), "chest", 0)
        self.wrong_rows(PAIR, 2, ((A0, "b", ()), None), "grounds", 0)
        self.wrong_rows(PAIR, 2, (((), "a", (True, None)), None), "ground", (0, 0))
        self.wrong_rows(PAIR, 2, (((), "a", (None, True)), None), "sound", (0, 0))
        self.wrong_rows(PAIR, 2, ROWS[:1] + (((), "b", (0, None)), None), "part", (1, 0))
        self.wrong_rows(PAIR, 2, (ROWS[0], (A0, "b", (None,))), "grounds", 1)
        self.wrong_rows(PAIR, 2, (ROWS[0], (A0, "c", ())), "row", 1)

    def test_chests_with_very_many_things(self):
        self.wrong_rows(MANY, 2, (((), "a", (None, None)),), "grounds", 0)
        self.wrong_rows(MANY, 2, (((("a", 10**40),), "b", ()),), "row", 0)
        hall = (("a", "b"), (10**50, 2), ((("a", "b"), ((10**49, 0),)), (("b",), ((1,),))))
        rows = (((("a", 10**49),), "b", (None, None)), ((), "a", ()))
        self.wrong_rows(hall, 2, rows, "grounds", 1)
        # A hall in which b alone has no thing, beside a chest with very many ones.
        hall = (("a", "b"), (10**50, 2), ((("b",), ()),))
        self.is_same(lets_play(hall, 1, ("caught", (((), "b", (None, None)),))), 1)


class Kept(PlayCase):
    def test_right_families(self):
        self.assertIs(lets_play(PAIR, 1, ("kept", ((), A0, B1))), None)
        self.assertIs(lets_play(thing=("kept", family(ODD, 2)), m=2, hall=ODD), None)
        self.assertIs(lets_play(FREE, 10**59, ("kept", family(FREE, 3))), None)
        self.assertIs(lets_play(ALONE, 1, ("kept", ((), A0))), None)

    def test_empty(self):
        self.wrong_family(PAIR, 1, (), "empty", -1)

    def test_filling(self):
        wrong = (None, 1, True, "a", [], ["a"], (("c", 0),), (("a", 2),), (("a", False),), [("a", 0)], (B0[0], A0[0]), A1, A0 + B1)
        for value in wrong:
            self.wrong_family(PAIR, 1, (value,), "filling", 0)
            self.wrong_family(PAIR, 1, ((), value), "filling", 1)

    def test_many(self):
        hall = (("a", "b"), (2, 2), ())
        self.wrong_family(hall, 1, ((), A0, A0 + B0, B0), "many", 2)
        self.wrong_family(hall, 1, (A0 + B0, ()), "many", 0)
        self.assertIs(lets_play(hall, 2, ("kept", ((), A0, A0 + B0, B0))), None)

    def test_order(self):
        self.wrong_family(PAIR, 1, ((), B1, A0), "order", 2)
        self.wrong_family(PAIR, 1, ((), ()), "order", 1)
        self.wrong_family(PAIR, 1, (A0, ()), "order", 1)
        self.wrong_family(PAIR, 1, ((), A0, A0, B1), "order", 2)

    def test_part(self):
        hall = (("a", "b"), (2, 2), ())
        self.wrong_family(PAIR, 1, (A0, B1), "part", (0, "a"))
        self.wrong_family(hall, 2, ((), A0, A0 + B0, A0 + B1, B0), "part", (3, "a"))
        self.wrong_family(hall, 2, ((), A0, A0 + B0, A1 + B0, B0), "part", (3, "b"))
        self.wrong_family(hall, 2, (A0, A0 + B0, B0), "part", (0, "a"))

    def test_next(self):
        hall = (("a", "b"), (2, 2), ())
        self.wrong_family(PAIR, 1, ((),), "next", (0, "a"))
        self.wrong_family(PAIR, 1, ((), B1), "next", (0, "a"))
        self.wrong_family(hall, 1, ((), A0), "next", (0, "b"))
        self.wrong_family(hall, 2, ((), A0, B0), "next", (1, "b"))
        self.wrong_family(hall, 2, ((), A0, A0 + B0, A1, B0), "next", (3, "b"))
        self.wrong_family(hall, 2, ((), A0, A0 + B0, B0, B1), "next", (4, "a"))
        # A filling of as many chests as m needs no next one.
        self.assertIs(lets_play(FREE, 1, ("kept", ((), A0, B0, (("c", 2),)))), None)

    def test_the_first_of_two_faults(self):
        hall = (("a", "b"), (2, 2), ())
        self.wrong_family(hall, 1, ((), A0 + B0, None), "many", 1)
        self.wrong_family(hall, 1, (A0, (), None), "order", 1)
        self.wrong_family(hall, 1, (B0, A0 + B0), "many", 1)
        self.wrong_family(hall, 2, (A0, A0), "order", 1)
        self.wrong_family(hall, 2, (B0, A0 + B0), "order", 1)
        # The chests of one element in order, whichever of the two words it is.
        self.wrong_family(hall, 2, (A0,), "part", (0, "a"))
        self.wrong_family(hall, 2, (B0,), "next", (0, "a"))
        self.wrong_family(ROW, 2, ((), A0, B0), "next", (0, "c"))

    def test_chests_with_very_many_things(self):
        right = ((), (("a", 3),), (("a", 3), ("b", 5)), (("b", 5),))
        self.assertIs(lets_play(MANY, 2, ("kept", right)), None)
        self.assertIs(lets_play(MANY, 10**59, ("kept", right)), None)
        more = right[:3] + ((("a", 3), ("b", 10**39)),) + right[3:]
        self.wrong_family(MANY, 2, more, "part", (3, "a"))
        self.wrong_family(MANY, 2, right[:2], "next", (0, "b"))
        self.wrong_family(MANY, 1, right, "many", 2)


if __name__ == "__main__":
    unittest.main()
