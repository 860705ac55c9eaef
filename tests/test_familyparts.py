"""[29] and [32]: whole_family, cut_family."""

import unittest

from keptopen.errors import NotUsable
from keptopen.families import family, is_family
from keptopen.familyparts import cut_family, whole_family
from keptopen.halls import Hall
from support import ALONE, ANY, DRAWN, HALF, HALLS, LONG, NO_HALLS, ODD, PAIR, ROW, TIGHT, VALUE, Case
from support import slow_fillings, slow_parts, slow_sound, slow_wholes
from test_plays import NO_MS

FEW = tuple([hall for hall in HALLS if hall != LONG]) + DRAWN[:60] + TIGHT[:20]


class WholeFamily(Case):
    def test_parts_of_at_most_m_chests(self):
        for hall in FEW:
            for whole in slow_wholes(hall):
                for m in range(1, len(hall[0]) + 3):
                    parts = tuple([part for part in slow_parts(whole) if len(part) <= m])
                    self.is_same(whole_family(hall, m, whole), parts)
                    self.is_same(whole_family(filling=whole, m=m, hall=hall), parts)
                    self.assertIs(is_family(hall, m, parts), True)
        self.is_same(whole_family(ALONE, 10**59, (("a", 0),)), ((), (("a", 0),)))

    def test_a_hall_of_very_many_chests(self):
        names = tuple(sorted({one + other for one in "abcdefg" for other in "abcdefg"}))
        one = Hall(names, (1,) * len(names)).hall_now
        whole = tuple([(name, 0) for name in names])
        self.is_same(whole_family(one, 1, whole), ((),) + tuple([(pair,) for pair in whole]))

    def test_wrong_values(self):
        good = {"hall": HALF, "m": 2, "filling": (("a", 0), ("b", 0), ("c", 1))}
        self.refuses_parameter(whole_family, good, "hall", NO_HALLS, "hall")
        self.refuses_parameter(whole_family, good, "m", NO_MS, "m", VALUE)
        self.refuses_parameter(whole_family, good, "filling", ANY + ((("a", 0), ("b", 0), ("c", True)),), "filling")

    def test_fillings_that_are_not_whole_and_sound(self):
        for hall in (ROW, HALF, ODD, PAIR):
            for filling in slow_fillings(hall):
                if len(filling) < len(hall[0]) or not slow_sound(hall, filling):
                    self.refuses(NotUsable("filling", -1), whole_family, hall, 1, filling)


class CutFamily(Case):
    def test_fillings_of_at_most_so_many_chests(self):
        for hall in FEW:
            for m in range(1, len(hall[0]) + 2):
                right = family(hall, m)
                if right is not None:
                    for less in range(1, m + 1):
                        cut = tuple([one for one in right if len(one) <= less])
                        self.is_same(cut_family(hall, m, right, less), cut)
                        self.is_same(cut_family(less=less, family=right, m=m, hall=hall), cut)
                        self.assertIs(is_family(hall, less, cut), True)

    def test_less_goes_by_the_m_that_is_told(self):
        right = family(ROW, 3)
        self.is_same(cut_family(ROW, 7, right, 7), right)
        self.is_same(cut_family(ROW, 7, right, 5), right)
        self.is_same(cut_family(ROW, 10**59, right, 10**59), right)
        self.refuses(NotUsable("less", 8), cut_family, ROW, 7, right, 8)
        self.refuses(NotUsable("less", 4), cut_family, ROW, 3, right, 4)

    def test_wrong_values(self):
        good = {"hall": PAIR, "m": 1, "family": family(PAIR, 1), "less": 1}
        self.refuses_parameter(cut_family, good, "hall", NO_HALLS, "hall")
        self.refuses_parameter(cut_family, good, "m", NO_MS, "m", VALUE)
        right = family(PAIR, 1)
        wrong = ANY + (right[:2], right[::-1], list(right), right + right[-1:], right[1:], ((), (("a", 0),), (("b", True),)))
        self.refuses_parameter(cut_family, good, "family", wrong, "family")
        no_lesses = [value for value in ANY if not (type(value) is int and value == 1)]
        self.refuses_parameter(cut_family, good, "less", no_lesses, "less", VALUE)


if __name__ == "__main__":
    unittest.main()
