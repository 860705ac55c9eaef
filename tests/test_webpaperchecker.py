"""[8] and [54]: lets_thicket, lets_size."""

import itertools
import unittest

from keptopen.bagchecker import lets_bags
from keptopen.errors import InvalidPaper
from keptopen.webpaperchecker import lets_size, lets_thicket
from support import ANY, DOT, DOTS, EIGHT, FOUR, FULL, NO_WEBS, RING, SEVEN, STAR, TWO, VALUE, WAY, Case, all_lots, copied, drawn_web
from support import slow_hangs
from test_bagchecker import BAGS, WRONG_BAGS
from test_plays import NO_MS
from test_thickets import slow_is_thicket

ABC = (("a",), ("b",), ("c",))
# Each of these has just one fault, but is a thicket of RING for 2 otherwise.
WRONG_LOTS = (
    list(ABC), (), (("a",), ["b"], ("c",)), (("a",), (), ("c",)), (("a",), ("b",), ("d",)), (("a",), ("c",), ("b",)), ABC + ABC[2:],
    (("a",), ("c", "b")), ABC[:2], (("a", "b"), ("c",)), ("a", "b", "c"), (("a",), ("b", "b"), ("c",)), (("a", None), ("b",), ("c",)),
)


class ThicketCase(Case):
    def right(self, web, m, lots):
        self.is_same(lets_thicket(web, m, lots), len(lots))
        self.is_same(lets_thicket(thing=lots, m=m, web=web), len(lots))
        self.is_same(lets_size(web, m, ("thicket", lots)), False)

    def wrong(self, web, m, thing, word, at):
        self.refuses(InvalidPaper(word, at), lets_thicket, web, m, thing)
        self.refuses(InvalidPaper(word, at), lets_thicket, thing=thing, m=m, web=web)
        self.refuses(InvalidPaper(word, at), lets_size, web, m, ("thicket", thing))


class Thickets(ThicketCase):
    def test_right_ones(self):
        self.right(RING, 2, ABC)
        self.right(RING, 1, ABC)
        self.right(RING, 1, (("a", "b"), ("a", "c"), ("b", "c")))
        self.right(WAY, 1, (("a",), ("b",)))
        self.right(WAY, 1, (("a", "b"), ("c",)))
        self.right(FULL[3], 4, (("a",), ("b",), ("c",), ("d",), ("e",)))
        self.right(FOUR, 2, (("a",), ("b", "c"), ("d",)))
        self.right(SEVEN, 2, (("a",), ("b", "c", "d"), ("e", "f", "g")))
        self.right(TWO, 2, ABC)

    def test_all_small_families_of_lots(self):
        for web in (RING, WAY, (("a", "b", "c"), (("a", "c"),))):
            lots = all_lots(web[0])[1:]
            for many in range(1, 5):
                for family in itertools.combinations(sorted(lots), many):
                    for m in range(1, 5):
                        if slow_is_thicket(web, m, family):
                            self.right(web, m, family)
                        else:
                            with self.assertRaises(InvalidPaper):
                                lets_thicket(web, m, family)

    def test_drawn_families_of_lots(self):
        for seed in range(150):
            web = drawn_web(seed, 6)
            lots = [lot for lot in all_lots(web[0])[1:] if slow_hangs(web, lot)]
            family = tuple(sorted(lots[(seed * 3) % len(lots) :: 1 + seed % 4][:6]))
            for m in range(1, 4):
                if slow_is_thicket(web, m, family):
                    self.right(web, m, family)
                else:
                    with self.assertRaises(InvalidPaper):
                        lets_thicket(web, m, family)

    def test_wrong_values(self):
        good = {"web": RING, "m": 2, "thing": ABC}
        self.refuses_parameter(lets_thicket, good, "web", NO_WEBS, "web")
        self.refuses_parameter(lets_thicket, good, "m", NO_MS, "m", VALUE)
        for value in WRONG_LOTS:
            before = copied(value)
            with self.assertRaises(InvalidPaper):
                lets_thicket(RING, 2, value)
            self.is_same(value, before)

    def test_shape(self):
        for value in ANY:
            if type(value) is not tuple or value == ():
                self.wrong(RING, 2, value, "shape", -1)
        self.wrong(RING, 2, list(ABC), "shape", -1)

    def test_lot(self):
        wrong = (None, 1, True, "a", (), ["a"], ("a", "a"), ("c", "b"), ("d",), ("a", "d"), ("a", None), (("a",),), (0,))
        for value in wrong:
            self.wrong(RING, 2, (value,), "lot", 0)
            self.wrong(RING, 2, (("a",), ("b",), value, None), "lot", 2)
        for value in ANY:
            if value not in (("a",), ("a", "b")):
                self.wrong(RING, 2, (value,), "lot", 0)

    def test_order(self):
        self.wrong(RING, 2, (("b",), ("a",)), "order", 1)
        self.wrong(RING, 2, (("a",), ("a",)), "order", 1)
        self.wrong(RING, 2, (("a",), ("c",), ("b",), None), "order", 2)
        self.wrong(RING, 2, (("a", "b"), ("a",)), "order", 1)

    def test_apart(self):
        self.wrong(WAY, 1, (("a", "c"),), "apart", 0)
        self.wrong(WAY, 1, (("a", "b"), ("a", "c")), "apart", 1)
        self.wrong(DOTS, 1, (("a",), ("a", "b", "d")), "apart", 1)
        self.wrong(TWO, 1, (("a", "b"), ("a", "b", "y", "z")), "apart", 1)

    def test_touch(self):
        self.wrong(WAY, 1, (("a",), ("c",)), "touch", (0, 1))
        self.wrong(EIGHT, 1, (("a",), ("b",), ("d",), ("e",)), "touch", (0, 2))
        self.wrong(EIGHT, 1, (("b",), ("c",), ("d",)), "touch", (0, 2))
        self.wrong(SEVEN, 1, (("a",), ("a", "b"), ("b", "c"), ("d", "e")), "touch", (0, 3))
        self.wrong(STAR, 1, (("a", "c"), ("b", "c"), ("c",), ("d",), ("e",)), "touch", (3, 4))

    def test_met(self):
        self.wrong(RING, 3, ABC, "met", -1)
        self.wrong(RING, 4, ABC, "met", -1)
        self.wrong(RING, 10**59, ABC, "met", -1)
        self.wrong(RING, 1, (("a",),), "met", -1)
        self.wrong(RING, 1, (("a",), ("a", "b")), "met", -1)
        self.wrong(RING, 2, (("a", "b"), ("a", "c"), ("b", "c")), "met", -1)
        self.wrong(DOT, 1, (("a",),), "met", -1)
        self.wrong(STAR, 1, (("a", "c"), ("b", "c"), ("c", "d")), "met", -1)

    def test_the_first_of_two_faults(self):
        self.wrong(WAY, 1, (("c",), ("a", "c"), ("b", "a")), "order", 1)
        self.wrong(WAY, 1, (("a", "c"), None), "apart", 0)
        self.wrong(WAY, 1, (("a",), ("a", "c"), None), "apart", 1)
        self.wrong(WAY, 1, (("a",), ("c",), ("b",)), "touch", (0, 1))
        self.wrong(WAY, 1, (("b",), ("a", "c")), "order", 1)
        self.wrong(STAR, 2, (("a",), ("b", "d")), "apart", 1)
        self.wrong(STAR, 2, (("a",), ("b",)), "touch", (0, 1))


class Sizes(ThicketCase):
    def wrong_size(self, web, m, thing, word, at):
        self.refuses(InvalidPaper(word, at), lets_size, web, m, thing)
        self.refuses(InvalidPaper(word, at), lets_size, thing=thing, m=m, web=web)

    def test_bags(self):
        self.is_same(lets_size(WAY, 2, ("bags", *BAGS)), True)
        self.is_same(lets_size(thing=("bags", *BAGS), m=5, web=WAY), True)
        self.is_same(lets_size(RING, 3, ("bags", (("a", "b", "c"),), ())), True)
        self.is_same(lets_size(DOTS, 1, ("bags", (("a",), ("b",), (), ("c",), ("d",)), ((0, 1), (1, 2), (2, 3), (2, 4)))), True)

    def test_wrong_values(self):
        good = {"web": WAY, "m": 2, "thing": ("bags", *BAGS)}
        self.refuses_parameter(lets_size, good, "web", NO_WEBS, "web")
        self.refuses_parameter(lets_size, good, "m", NO_MS, "m", VALUE)

    def test_shape(self):
        for value in ANY:
            self.wrong_size(WAY, 2, value, "shape", -1)
            self.wrong_size(WAY, 2, (value, *BAGS), "shape", -1)
            self.wrong_size(RING, 2, (value, ABC), "shape", -1)
        wrong = (
            ["bags", *BAGS], ("bags", BAGS), ("bags",), ("bags", *BAGS, ()), ("thicket",), ("thicket", ABC, ()), ["thicket", ABC],
            ("thicket", *BAGS), ("bags", ABC), ("Bags", *BAGS), ("bag", *BAGS), ("thickets", ABC),
        )
        for value in wrong:
            self.wrong_size(WAY, 2, value, "shape", -1)

    def test_the_errors_of_bags(self):
        for value in WRONG_BAGS + tuple(("a", part) for part in ANY) + tuple((part, "a") for part in ANY):
            if type(value) is tuple and len(value) == 2:
                with self.assertRaises(InvalidPaper) as caught:
                    lets_bags(WAY, value)
                self.wrong_size(WAY, 2, ("bags", *value), caught.exception.word, caught.exception.at)

    def test_size(self):
        self.wrong_size(WAY, 1, ("bags", *BAGS), "size", 0)
        self.wrong_size(WAY, 1, ("bags", (("b",), ("a", "b"), ("b", "c")), ((0, 1), (0, 2))), "size", 1)
        self.wrong_size(RING, 2, ("bags", ((), ("c",), ("a", "b", "c")), ((0, 1), (1, 2))), "size", 2)
        # Only after all errors of the tree of bags.
        self.wrong_size(WAY, 1, ("bags", (("a", "b"), ("c",)), ((0, 1),)), "gate", 1)
        self.wrong_size(WAY, 1, ("bags", (("a", "b", "c"), ("a",)), ()), "tree", -1)


if __name__ == "__main__":
    unittest.main()
