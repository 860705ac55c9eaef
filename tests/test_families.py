"""[5], [32] and [33]: family, is_family."""

import unittest

from keptopen.families import family, is_family
from keptopen.familyparts import cut_family, whole_family
from keptopen.plays import moves
from keptopen.wholes import whole_fillings
from support import ALONE, ANY, DRAWN, FREE, HALLS, LONG, MANY, NEVER, NO_HALLS, ODD, PAIR, TIGHT, VALUE, Case
from support import slow_barred, slow_family, slow_fillings, slow_parts, slow_sound, slow_stays
from test_plays import NO_MS

FEW = tuple([hall for hall in HALLS if hall != LONG]) + DRAWN[:60] + TIGHT[:20]


def slow_is_family(hall, m, fillings):
    """Whether fillings, which are ascending ones of the hall, are a family, straight from [5]."""
    left = set(fillings)
    right = all(slow_sound(hall, one) and len(one) <= m for one in fillings)
    return len(left) > 0 and right and all(slow_stays(hall, m, one, left) for one in fillings)


class Family(Case):
    def test_greatest_families(self):
        for hall in FEW:
            for m in range(1, len(hall[0]) + 3):
                greatest = slow_family(hall, m)
                self.is_same(family(hall, m), greatest)
                self.is_same(family(m=m, hall=hall), greatest)
        self.is_same(family(LONG, 1), slow_family(LONG, 1))

    def test_edges(self):
        self.is_same(family(ALONE, 1), ((), (("a", 0),)))
        self.is_same(family(ALONE, 10**59), ((), (("a", 0),)))
        self.is_same(family(NEVER, 1), None)
        self.is_same(family(FREE, 2), tuple([one for one in slow_fillings(FREE) if len(one) <= 2]))

    def test_an_m_beyond_the_chests(self):
        for hall in FEW:
            for m in (len(hall[0]) + 1, 10**59):
                self.is_same(family(hall, m), family(hall, len(hall[0])))

    def test_wrong_values(self):
        good = {"hall": PAIR, "m": 1}
        self.refuses_parameter(family, good, "hall", NO_HALLS, "hall")
        self.refuses_parameter(family, good, "m", NO_MS, "m", VALUE)


class IsFamily(Case):
    def test_greatest_families(self):
        for hall in FEW:
            for m in range(1, len(hall[0]) + 3):
                if family(hall, m) is not None:
                    self.assertIs(is_family(hall, m, family(hall, m)), True)
                    self.assertIs(is_family(thing=family(hall, m), m=m, hall=hall), True)

    def test_one_filling_less_or_more(self):
        for hall in FEW[:60]:
            for m in range(1, len(hall[0]) + 1):
                greatest = family(hall, m) or ()
                for one in greatest:
                    less = tuple([other for other in greatest if other != one])
                    self.assertIs(is_family(hall, m, less), slow_is_family(hall, m, less))
                for one in slow_fillings(hall):
                    if one not in greatest:
                        self.assertIs(is_family(hall, m, tuple(sorted(greatest + (one,)))), False)

    def test_another_order_or_kind(self):
        for hall, m in ((PAIR, 1), (ODD, 2), (FREE, 2), (FREE, 3)):
            right = family(hall, m)
            for value in (list(right), right[::-1], right + right[-1:], right[:1] + right, right[1:] + right[:1], dict.fromkeys(right)):
                self.assertIs(is_family(hall, m, value), False)
            for k in (0, len(right) - 1):
                self.assertIs(is_family(hall, m, right[:k] + (list(right[k]),) + right[k + 1 :]), False)
        self.assertIs(is_family(PAIR, 1, ((), (("a", False),), (("b", 1),))), False)
        self.assertIs(is_family(PAIR, 1, ((), (("a", 0),), (("b", True),))), False)

    def test_values_of_every_kind(self):
        for value in ANY + (((),), ((), ()), ((), (("a", 0),))):
            self.assertIs(is_family(PAIR, 1, value), False)
            self.assertIs(is_family(FREE, 3, value), False)
        self.assertIs(is_family(ALONE, 1, ((), (("a", 0),))), True)
        self.assertIs(is_family(ALONE, 1, ((),)), False)

    def test_fillings_of_more_chests_than_m(self):
        self.assertIs(is_family(FREE, 1, slow_family(FREE, 2)), False)
        self.assertIs(is_family(FREE, 2, slow_family(FREE, 1)), False)

    def test_chests_with_very_many_things(self):
        right = ((), (("a", 3),), (("a", 3), ("b", 5)), (("b", 5),))
        self.assertIs(is_family(MANY, 2, right), True)
        self.assertIs(is_family(MANY, 10**59, right), True)
        self.assertIs(is_family(MANY, 1, (right[0], right[1], right[3])), True)
        self.assertIs(is_family(MANY, 1, right[:2]), False)
        self.assertIs(is_family(MANY, 2, ((), (("a", 3),), (("a", 3), ("b", 6)), (("b", 6),))), False)

    def test_wrong_values(self):
        good = {"hall": PAIR, "m": 1, "thing": None}
        self.refuses_parameter(is_family, good, "hall", NO_HALLS, "hall")
        self.refuses_parameter(is_family, good, "m", NO_MS, "m", VALUE)


class Consequences(Case):
    def test_no_part_is_barred(self):
        for hall in FEW:
            for m in range(1, len(hall[0]) + 1):
                barred = slow_barred(hall, m)
                right = tuple(
                    [
                        one
                        for one in slow_fillings(hall)
                        if len(one) <= m and slow_sound(hall, one) and not any(part in barred for part in slow_parts(one))
                    ]
                )
                self.is_same(family(hall, m) or (), right)

    def test_two_families_together(self):
        for hall in FEW:
            for m in range(1, len(hall[0]) + 1):
                parts = [whole_family(hall, m, whole) for whole in whole_fillings(hall)[:3]]
                for one in parts:
                    for other in parts:
                        self.assertIs(is_family(hall, m, tuple(sorted(set(one) | set(other)))), True)

    def test_a_hall_with_more_seals(self):
        for hall in FEW:
            for m in range(1, len(hall[0]) + 1):
                if moves(hall, m) is None:
                    for less in range(len(hall[2]) + 1):
                        self.assertIs(is_family(hall[:2] + (hall[2][:less],), m, family(hall, m)), True)

    def test_whole_families_and_cut_families_are_in_it(self):
        for hall in FEW:
            for m in range(1, len(hall[0]) + 1):
                greatest = family(hall, m)
                for whole in whole_fillings(hall):
                    self.assertLessEqual(set(whole_family(hall, m, whole)), set(greatest))
                if greatest is not None:
                    for less in range(1, m + 1):
                        self.assertLessEqual(set(cut_family(hall, m, greatest, less)), set(family(hall, less)))


if __name__ == "__main__":
    unittest.main()
