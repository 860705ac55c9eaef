"""[64], [66] and [67]: odd_parts, least_switched."""

import unittest

from keptopen.bags import size_of_web
from keptopen.oddparts import least_switched, odd_parts
from support import DOT, DOTS, EIGHT, FULL, LADDER, NO_LOTS, NO_WEBS, RING, TWO, WAY, WEBS, WHEEL, Case, all_lots, slow_pieces
from support import some_odds


def slow_odd_parts(web, odds):
    """The parts with an odd number of chests of odds."""
    return tuple([part for part in slow_pieces(web, ()) if len(set(part) & set(odds)) % 2])


class OddParts(Case):
    def test_webs_of_one_part_and_of_several(self):
        kinds = set()
        for seed, web in enumerate(WEBS):
            for odds in some_odds(web, seed):
                right = slow_odd_parts(web, odds)
                kinds.add((len(slow_pieces(web, ())) > 1, len(right)))
                self.is_same(odd_parts(web, odds), right)
                self.is_same(odd_parts(odds=odds, web=web), right)
        self.assertLessEqual({(False, 0), (False, 1), (True, 0), (True, 1), (True, 2)}, kinds)

    def test_edges(self):
        self.is_same(odd_parts(DOT, ()), ())
        self.is_same(odd_parts(DOT, ("a",)), (("a",),))
        self.is_same(odd_parts(DOTS, DOTS[0]), (("a",), ("b",), ("c",), ("d",)))
        self.is_same(odd_parts(TWO, TWO[0]), (("a", "b", "c"),))
        self.is_same(odd_parts(TWO, ("a", "b", "y", "z")), ())

    def test_wrong_values(self):
        for call in (odd_parts, least_switched):
            self.refuses_parameter(call, {"web": WAY, "odds": ()}, "web", NO_WEBS, "web")
            self.refuses_parameter(call, {"web": WAY, "odds": ()}, "odds", NO_LOTS, "odds")


class LeastSwitched(Case):
    def slow_least(self, web, odds):
        """The least size of an odd part, as a web by itself."""
        webs = [(part, tuple([gate for gate in web[1] if set(gate) <= set(part)])) for part in slow_odd_parts(web, odds)]
        return min([size_of_web(one) for one in webs], default=None)

    def test_webs_of_one_part_and_of_several(self):
        for seed, web in enumerate(WEBS):
            for odds in some_odds(web, seed):
                self.is_same(least_switched(web, odds), self.slow_least(web, odds))
                self.is_same(least_switched(odds=odds, web=web), self.slow_least(web, odds))

    def test_edges(self):
        self.is_same([least_switched(DOT, ()), least_switched(DOT, ("a",)), least_switched(DOTS, DOTS[0])], [None, 1, 1])
        self.is_same([least_switched(TWO, odds) for odds in ((), ("a",), ("z",), ("a", "z"), ("y", "z"))], [None, 3, 2, 2, None])
        self.is_same([least_switched(RING, odds) for odds in ((), ("b",), ("a", "c"), ("a", "b", "c"))], [None, 3, None, 3])
        # A chest without gates beside a ring.
        web = (("a", "b", "c", "d"), RING[1])
        self.is_same([least_switched(web, ("a", "d")), least_switched(web, ("d",)), least_switched(web, ("a", "b", "d"))], [1, 1, 1])
        self.is_same([least_switched(web, web[0]), least_switched(web, ("a",))], [1, 3])

    def test_one_odd_chest_of_a_greatest_part(self):
        for web in WEBS:
            for chest in web[0]:
                told = least_switched(web, (chest,))
                self.assertLessEqual(told, size_of_web(web))
                part = [one for one in slow_pieces(web, ()) if chest in one][0]
                size = size_of_web((part, tuple([gate for gate in web[1] if set(gate) <= set(part)])))
                self.assertEqual(told, size)
        for web in (LADDER, EIGHT) + FULL:
            self.assertEqual({least_switched(web, (chest,)) for chest in web[0]}, {size_of_web(web)})

    def test_great_webs(self):
        for odds in all_lots(WHEEL[0])[::5]:
            self.is_same(least_switched(WHEEL, odds), size_of_web(WHEEL) if len(odds) % 2 else None)


if __name__ == "__main__":
    unittest.main()
