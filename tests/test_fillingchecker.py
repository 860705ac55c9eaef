"""[4] and [22]: lets_filling."""

import unittest

from keptopen.errors import InvalidPaper
from keptopen.fillingchecker import lets_filling
from support import ANY, DRAWN, HALLS, MANY, NO_HALLS, PAIR, ROW, Case, slow_fillings


class LetsFilling(Case):
    def wrong(self, hall, thing, word, at):
        with self.subTest(thing=thing):
            self.refuses(InvalidPaper(word, at), lets_filling, hall, thing)
            self.refuses(InvalidPaper(word, at), lets_filling, thing=thing, hall=hall)

    def test_right_fillings_sound_and_broken(self):
        for hall in HALLS + DRAWN:
            for filling in slow_fillings(hall):
                self.is_same(lets_filling(hall, filling), len(filling))
        self.is_same(lets_filling(thing=(("a", 1), ("b", 0)), hall=PAIR), 2)
        self.is_same(lets_filling(MANY, (("a", 10**40 - 1), ("b", 0))), 2)

    def test_wrong_halls(self):
        self.refuses_parameter(lets_filling, {"hall": PAIR, "thing": ()}, "hall", NO_HALLS, "hall")

    def test_shape(self):
        for value in ANY + ([("a", 0)], [], {"a": 0}):
            if type(value) is not tuple:
                self.wrong(ROW, value, "shape", -1)

    def test_pairs(self):
        for value in (None, 1, "ab", (), ("a",), ("a", 0, 0), ["a", 0], [("a", 0)], True):
            self.wrong(ROW, (value,), "pair", 0)
            self.wrong(ROW, (("a", 0), value), "pair", 1)

    def test_chests(self):
        for value in (None, 1, True, "", "d", "ab", "A", ("a",), ["a"], ()):
            self.wrong(ROW, ((value, 0),), "chest", 0)
            self.wrong(ROW, (("a", 0), ("b", 1), (value, 0)), "chest", 2)

    def test_order(self):
        self.wrong(ROW, (("a", 0), ("a", 0)), "order", 1)
        self.wrong(ROW, (("a", 0), ("a", 1)), "order", 1)
        self.wrong(ROW, (("b", 0), ("a", 0)), "order", 1)
        self.wrong(ROW, (("a", 0), ("c", 0), ("b", 0)), "order", 2)

    def test_things(self):
        for value in (2, -1, True, False, None, "0", (0,), [0], 10**59):
            self.wrong(ROW, (("a", value),), "thing", 0)
            self.wrong(ROW, (("a", 1), ("b", value)), "thing", 1)
        self.wrong(ROW, (("c", 3),), "thing", 0)
        self.wrong(MANY, (("a", 0), ("b", 10**40)), "thing", 1)

    def test_the_first_of_two_faults(self):
        self.wrong(ROW, (("a", 2), None), "thing", 0)
        self.wrong(ROW, (("z", 9), ("a", 0)), "chest", 0)
        self.wrong(ROW, (("c", 0), ("z", 9)), "chest", 1)
        self.wrong(ROW, (("c", 0), ("a", 9)), "order", 1)
        self.wrong(ROW, (("a", 0), ("z", 0, 0), ("a", 5)), "pair", 1)
        self.wrong(ROW, (("b", 0), ("a", 0), ("c", 7)), "order", 1)

    def test_values_of_every_kind(self):
        for value in ANY:
            if value not in ((), (("a", 0),), [], [("a", 0)]):
                with self.assertRaises(InvalidPaper):
                    lets_filling(PAIR, value)


if __name__ == "__main__":
    unittest.main()
