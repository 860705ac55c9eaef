"""[3] and [12]: lets_hall."""

import unittest

from keptopen.errors import InvalidPaper
from keptopen.hallchecker import lets_hall
from support import ANY, DRAWN, HALLS, LINE, MANY, PAIR, TIGHT, WRONG_HALLS, Case

FOUR = (("a", "b", "c", "d"), (2, 3, 1, 2))


def of_four(*seals):
    return FOUR + (seals,)


class LetsHall(Case):
    def wrong(self, thing, word, at):
        with self.subTest(thing=thing):
            self.refuses(InvalidPaper(word, at), lets_hall, thing)
            self.refuses(InvalidPaper(word, at), lets_hall, thing=thing)

    def test_right_halls(self):
        for hall in HALLS + DRAWN + TIGHT + (MANY,):
            self.is_same(lets_hall(hall), len(hall[2]))
            self.is_same(lets_hall(thing=hall), len(hall[2]))
        self.is_same(lets_hall((("a",), (10**40,), ())), 0)
        self.is_same(lets_hall(of_four((("a", "b", "d"), ((0, 0, 1), (0, 2, 0), (1, 0, 0))))), 1)
        self.is_same(lets_hall(of_four((("c",), ()), (("c",), ()), (("c",), ((0,),)))), 3)

    def test_halls_beyond_the_limits(self):
        names = sorted({first + second for first in "abcdefgh" for second in "abcdefgh"})
        hall = (tuple(names), (100,) * 64, tuple([((name,), ((99,),)) for name in names]))
        self.is_same(lets_hall(hall), 64)
        self.wrong(hall[:2] + (hall[2] + (((names[63],), ((100,),)),),), "row", (64, 0))

    def test_shape(self):
        for value in ANY:
            self.wrong(value, "shape", -1)
        for value in (PAIR[:2], PAIR + ((),), list(PAIR), [PAIR], ((), (), ()), ((), (1,), (None,))):
            self.wrong(value, "shape", -1)
        for place in range(3):
            for part in (None, 1, True, "a", "", [], ["a"], list(PAIR[place])):
                self.wrong(PAIR[:place] + (part,) + PAIR[place + 1 :], "shape", -1)

    def test_chests(self):
        for value in (None, 1, True, "", "A", "abcdefghi", "a b", ("a",), ["a"], ()):
            self.wrong(((value,), (1,), ()), "chest", 0)
            self.wrong((("a", value), (1, 1), ()), "chest", 1)
        self.wrong((("a", "a"), (1, 1), ()), "chest", 1)
        self.wrong((("a", "c", "b"), (1, 1, 1), ()), "chest", 2)
        self.wrong((("b", "a", "c", "c"), (1,) * 4, ()), "chest", 1)

    def test_sizes(self):
        for sizes in ((), (2,), (2, 2, 2)):
            self.wrong((("a", "b"), sizes, ()), "sizes", -1)
        for value in (0, -1, None, True, False, "2", (), (2,), [2]):
            self.wrong((("a", "b"), (value, 1), ()), "size", 0)
            self.wrong((("a", "b"), (1, value), ()), "size", 1)

    def test_seals(self):
        for value in (None, 1, "ab", (), ((),), ((), (), ()), (["a"], ()), (("a",), []), [("a",), ()], ("a", ()), (("a",), None)):
            self.wrong(of_four(value), "seal", 0)
            self.wrong(of_four((("a",), ()), value), "seal", 1)

    def test_lots(self):
        lots = ((), ("e",), ("a", "e"), ("b", "a"), ("a", "a"), ("a", "b", "c", "d"), (1,), (None,), (["a"],), (("a",),), ("a", "A"))
        for lot in lots:
            self.wrong(of_four((lot, ())), "lot", 0)
            self.wrong(of_four((("a",), ()), (("b",), ()), (lot, ((0,),))), "lot", 2)

    def test_rows(self):
        rows = (None, 0, "0", [0, 0], (), (0,), (0, 0, 0), (2, 0), (0, 3), (-1, 0), (0, -1), (True, 0), (0, False), (None, 0), ((0,), 0))
        for row in rows:
            self.wrong(of_four((("a", "b"), (row,))), "row", (0, 0))
            self.wrong(of_four((("a",), ()), (("a", "b"), ((0, 0), row))), "row", (1, 1))
        self.wrong(of_four((("a", "b"), ((0, 1), (0, 1)))), "row", (0, 1))
        self.wrong(of_four((("a", "b"), ((0, 0), (1, 0), (0, 1)))), "row", (0, 2))

    def test_each_wrong_hall_has_a_fault(self):
        for hall in WRONG_HALLS:
            with self.assertRaises(InvalidPaper):
                lets_hall(hall)

    def test_the_first_of_two_faults(self):
        self.wrong((("a", "A", "b"), (1,), ()), "chest", 1)
        self.wrong((("b", "a"), (0, 0), ()), "chest", 1)
        self.wrong((("a", "A", "A"), (1, 1, 1), ()), "chest", 1)
        self.wrong((("a", "b"), (0,), ()), "sizes", -1)
        self.wrong((("a", "b"), (0, 0), ()), "size", 0)
        self.wrong((("a", "b"), (2, 0), (None,)), "size", 1)
        self.wrong(of_four((("a",), ((5,),)), None), "row", (0, 0))
        self.wrong(of_four((("e",), ((5,),)), None), "lot", 0)
        self.wrong(of_four((("e",), None), (("e",), ())), "seal", 0)
        self.wrong(of_four((("a",), ()), (("e",), (None,)), (("a",), ((2,),))), "lot", 1)
        self.wrong(of_four((("a",), ((1,), (2,), (0,)))), "row", (0, 1))
        self.wrong((("a",), [], None), "shape", -1)
        self.wrong((("A",), (), (None,)), "chest", 0)
        self.wrong(LINE[:1] + ((2, 3), (None,)), "sizes", -1)


if __name__ == "__main__":
    unittest.main()
