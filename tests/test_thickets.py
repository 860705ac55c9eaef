"""[8], [9] (O4), [52] and [56]: thicket."""

import itertools
import unittest

from keptopen.bags import size_of_web
from keptopen.thickets import thicket
from keptopen.webpaperchecker import lets_thicket
from support import DOT, DOTS, FULL, NO_WEBS, RING, SEVEN, VALUE, WAY, WEBS, WHEEL, Case, drawn_web, slow_hangs
from test_plays import NO_MS


def touching(web, one, other):
    """Whether two lots touch, straight from [8]."""
    return bool(set(one) & set(other)) or any((a, b) in web[1] or (b, a) in web[1] for a in one for b in other)


def slow_is_thicket(web, m, lots):
    """Whether a tuple is a thicket for m, straight from [8]."""
    right = len(lots) > 0 and list(lots) == sorted(set(lots)) and all(slow_hangs(web, lot) for lot in lots)
    right = right and all(touching(web, one, other) for one, other in itertools.combinations(lots, 2))
    some = [one for many in range(min(m, len(web[0])) + 1) for one in itertools.combinations(web[0], many)]
    return right and not any(all(set(one) & set(lot) for lot in lots) for one in some)


class Thickets(Case):
    def test_each_m(self):
        for web in WEBS:
            for m in range(1, len(web[0]) + 3):
                lots = thicket(web, m)
                self.is_same(thicket(m=m, web=web), lots)
                if lots is None:
                    self.assertLessEqual(size_of_web(web), m)
                else:
                    self.assertGreater(size_of_web(web), m)
                    self.is_same(lots, tuple([tuple(lot) for lot in lots]))
                    self.assertTrue(slow_is_thicket(web, m, lots))
                    self.is_same(lets_thicket(web, m, lots), len(lots))

    def test_edges(self):
        self.is_same([thicket(DOT, 1), thicket(DOTS, 1), thicket(WAY, 2), thicket(RING, 3), thicket(RING, 10**59)], [None] * 5)
        self.is_same(thicket(FULL[3], 4), (("a",), ("b",), ("c",), ("d",), ("e",)))
        self.is_same(thicket(RING, 2), (("a",), ("b",), ("c",)))
        self.assertEqual((thicket(SEVEN, 2) is None, thicket(SEVEN, 3) is None), (False, True))

    def test_seven_chests_and_twelve_gates(self):
        for web in [WHEEL] + [drawn_web(seed) for seed in range(300, 340)]:
            size = size_of_web(web)
            self.assertIs(thicket(web, size), None)
            if size > 1:
                self.assertTrue(slow_is_thicket(web, size - 1, thicket(web, size - 1)))

    def test_wrong_values(self):
        good = {"web": RING, "m": 2}
        self.refuses_parameter(thicket, good, "web", NO_WEBS, "web")
        self.refuses_parameter(thicket, good, "m", NO_MS, "m", VALUE)


class Consequences(Case):
    def test_a_thicket_is_one_for_each_less_number(self):
        for web in WEBS:
            for m in range(2, size_of_web(web)):
                for less in range(1, m):
                    self.is_same(lets_thicket(web, less, thicket(web, m)), len(thicket(web, m)))

    def test_a_tree_of_bags_or_a_thicket(self):
        for web in WEBS:
            for m in range(1, 8):
                self.assertEqual(thicket(web, m) is None, size_of_web(web) <= m)


if __name__ == "__main__":
    unittest.main()
