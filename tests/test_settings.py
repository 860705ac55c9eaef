"""[64], [68] and [73]: odds_of, turned_along, some_settings, many_settings, filling_by, bits_by."""

import unittest

from keptopen.errors import NotUsable
from keptopen.oddparts import odd_parts
from keptopen.settings import bits_by, filling_by, many_settings, odds_of, some_settings, turned_along
from keptopen.switched import setting_of, switched_hall
from keptopen.wholes import many_wholes, whole_fillings
from support import ANY, DOT, DOTS, EIGHT, FOUR, LADDER, NO_LOTS, NO_TWO_BITS, NO_WEBS, RING, SEVEN, STAR, SWITCHED, TWO, WAY, Case
from support import Draw, all_lots, same, slow_all_bits, slow_fillings, slow_odds, slow_setting, slow_solutions, slow_sound
from support import slow_switched, some_odds
from test_switched import FULLEST, SMALL


def some_bits(web, seed, many=6):
    """Some bits for all gates: all 0, all 1, and drawn ones."""
    draw = Draw(seed)
    drawn = {tuple([draw.below(2) for _ in web[1]]) for _ in range(many)}
    return sorted(drawn | {(0,) * len(web[1]), (1,) * len(web[1])})


def some_way(web, draw, long):
    """A way of at most so many chests."""
    way = [web[0][draw.below(len(web[0]))]]
    for _ in range(long - 1):
        after = sorted({one for gate in web[1] if way[-1] in gate for one in gate} - {way[-1]})
        if after:
            way.append(after[draw.below(len(after))])
    return tuple(way)


class OddsOf(Case):
    def test_all_webs(self):
        for seed, web in enumerate(SWITCHED + (FULLEST,)):
            for bits in some_bits(web, seed):
                self.is_same(odds_of(web, bits), slow_odds(web, bits))
                self.is_same(odds_of(bits=bits, web=web), slow_odds(web, bits))

    def test_webs_without_gates(self):
        self.is_same((odds_of(DOT, ()), odds_of(DOTS, ())), ((), ()))
        self.refuses(NotUsable("bits", -1), odds_of, DOTS, (0,))

    def test_an_even_number_in_each_part(self):
        for seed, web in enumerate(SWITCHED):
            for bits in some_bits(web, seed):
                self.is_same(odd_parts(web, odds_of(web, bits)), ())

    def test_wrong_values(self):
        self.refuses_parameter(odds_of, {"web": WAY, "bits": (0, 1)}, "web", NO_WEBS, "web")
        self.refuses_parameter(odds_of, {"web": WAY, "bits": (0, 1)}, "bits", NO_TWO_BITS, "bits")


class TurnedAlong(Case):
    def slow_turned(self, web, bits, way):
        told = dict(zip(web[1], bits))
        for gate in zip(way, way[1:]):
            told[tuple(sorted(gate))] ^= 1
        return tuple([told[gate] for gate in web[1]])

    def test_ways(self):
        for seed, web in enumerate(SWITCHED):
            draw = Draw(seed)
            for bits in some_bits(web, seed, 2):
                for long in (1, 2, 3, 6, 15):
                    way = some_way(web, draw, long)
                    right = self.slow_turned(web, bits, way)
                    self.is_same(turned_along(web, bits, way), right)
                    self.is_same(turned_along(way=way, bits=bits, web=web), right)
                    # Both ends change, none if they are one chest.
                    ends = {way[0]} ^ {way[-1]} if way[0] == way[-1] else {way[0], way[-1]}
                    self.assertEqual(set(odds_of(web, bits)) ^ set(odds_of(web, right)), ends)
                    self.is_same(turned_along(web, right, way[::-1]), bits)

    def test_edges(self):
        self.is_same(turned_along(DOT, (), ("a",)), ())
        self.is_same(turned_along(RING, (1, 1, 0), ("c",)), (1, 1, 0))
        self.is_same(turned_along(RING, (0, 0, 0), ("a", "b", "c", "a")), (1, 1, 1))
        self.is_same(turned_along(WAY, (0, 0), ("a", "b", "a", "b")), (1, 0))
        self.is_same(turned_along(WAY, (0, 0), ("c", "b", "c", "b", "a")), (1, 1))

    def test_wrong_values(self):
        good = {"web": WAY, "bits": (0, 1), "way": ("a", "b")}
        self.refuses_parameter(turned_along, good, "web", NO_WEBS, "web")
        self.refuses_parameter(turned_along, good, "bits", NO_TWO_BITS, "bits")
        right = ((type(value) is tuple and value in (("a",), ("a", "b"), ("b", "a"))) for value in ANY)
        wrong = [value for value, fine in zip(ANY, right) if not fine]
        wrong += [("a", "c"), ("a", "a"), ("a", "b", "d"), ["a", "b"], ("a", "b", "c", "a"), (("a", "b"),), "ab", ("b", None)]
        self.refuses_parameter(turned_along, good, "way", wrong, "way")


class SomeSettings(Case):
    def test_all_sets_of_odd_chests(self):
        for web in SMALL + (EIGHT, FOUR, LADDER, SEVEN, STAR):
            solutions = slow_solutions(web)
            for odds in all_lots(web[0]):
                right = solutions.get(odds, [])
                self.is_same(many_settings(web, odds), len(right))
                self.is_same(many_settings(odds=odds, web=web), len(right))
                for told in (some_settings(web, odds), some_settings(odds=odds, web=web)):
                    if right:
                        self.assertIn(told, right)
                        self.is_same(told, right[right.index(told)])
                    else:
                        self.assertIs(told, None)

    def test_all_webs(self):
        for seed, web in enumerate(SWITCHED + (FULLEST,)):
            for odds in some_odds(web, seed):
                told = some_settings(web, odds)
                self.assertEqual(told is None, odd_parts(web, odds) != ())
                if told is not None:
                    self.is_same(odds_of(web, told), odds)
                    self.is_same(many_settings(web, odds), len(slow_solutions(web)[odds]))
                else:
                    self.is_same(many_settings(web, odds), 0)

    def test_webs_without_gates(self):
        self.is_same((some_settings(DOTS, ()), many_settings(DOTS, ())), ((), 1))
        self.is_same((some_settings(DOTS, ("b", "c")), many_settings(DOTS, ("b", "c"))), (None, 0))
        self.is_same((some_settings(TWO, ("y", "z")), many_settings(TWO, ())), ((0, 0, 0, 1), 2))

    def test_wrong_values(self):
        for call in (some_settings, many_settings):
            self.refuses_parameter(call, {"web": WAY, "odds": ()}, "web", NO_WEBS, "web")
            self.refuses_parameter(call, {"web": WAY, "odds": ()}, "odds", NO_LOTS, "odds")


class Fillings(Case):
    def test_filling_by(self):
        for seed, web in enumerate(SWITCHED + (FULLEST,)):
            for bits in some_bits(web, seed, 3):
                told, odds = filling_by(web, bits), slow_odds(web, bits)
                self.is_same(filling_by(bits=bits, web=web), told)
                self.assertEqual([chest for chest, _ in told], list(web[0]))
                for chest, thing in told:
                    self.is_same(setting_of(web, odds, chest, thing), slow_setting(web, bits, chest))
                self.assertTrue(slow_sound(slow_switched(web, odds), told))
                self.is_same(bits_by(web, odds, told), bits)

    def test_just_the_whole_sound_fillings(self):
        for web in SMALL:
            for odds in all_lots(web[0]):
                right = sorted(filling_by(web, bits) for bits in slow_solutions(web).get(odds, []))
                self.is_same(list(whole_fillings(switched_hall(web, odds))), right)
                self.is_same(many_settings(web, odds), many_wholes(switched_hall(web, odds)))

    def test_bits_by(self):
        for web in SMALL:
            for odds in some_odds(web, 5, 1):
                hall = slow_switched(web, odds)
                for one in slow_fillings(hall):
                    if slow_sound(hall, one):
                        right = self.slow_bits(web, odds, one)
                        self.is_same(bits_by(web, odds, one), right)
                    else:
                        self.refuses(NotUsable("filling", -1), bits_by, web, odds, one)

    def slow_bits(self, web, odds, filling):
        """The bits by what each chest of a gate says of it; both say the same."""
        told = []
        for gate in web[1]:
            found = set()
            for chest, thing in filling:
                if chest in gate:
                    gates = [other for other in web[1] if chest in other]
                    found.add(setting_of(web, odds, chest, thing)[gates.index(gate)])
            self.assertLessEqual(len(found), 1)
            told.append(found.pop() if found else None)
        return tuple(told)

    def test_edges(self):
        self.is_same((filling_by(DOTS, ()), bits_by(DOTS, (), ())), (tuple([(chest, 0) for chest in "abcd"]), ()))
        self.is_same(bits_by(DOTS, ("b",), (("a", 0),)), ())
        # The only thing of b breaks the seal.
        self.refuses(NotUsable("filling", -1), bits_by, DOTS, ("b",), (("b", 0),))
        self.is_same(bits_by(RING, ("a",), ()), (None, None, None))
        self.is_same(bits_by(filling=(("c", 1),), odds=("a",), web=RING), (None, 1, 1))
        self.refuses(NotUsable("filling", -1), bits_by, RING, ("a",), (("a", 0), ("b", 1)))

    def test_wrong_values(self):
        self.refuses_parameter(filling_by, {"web": WAY, "bits": (0, 1)}, "web", NO_WEBS, "web")
        self.refuses_parameter(filling_by, {"web": WAY, "bits": (0, 1)}, "bits", NO_TWO_BITS, "bits")
        good = {"web": RING, "odds": ("a",), "filling": (("a", 0),)}
        self.refuses_parameter(bits_by, good, "web", NO_WEBS, "web")
        self.refuses_parameter(bits_by, good, "odds", NO_LOTS, "odds")
        wrong = [value for value in ANY if not (type(value) is tuple and value in ((), (("a", 0),)))]
        wrong += [(("a", 2),), (("d", 0),), (("a", False),), [("a", 0)], (["a", 0],), (("b", 0), ("a", 0)), "a"]
        wrong += [(("a", 0), ("b", 1)), (("a", 0), ("b", 0), ("c", 0)), (("a", 0), ("c", 0))]
        self.refuses_parameter(bits_by, good, "filling", wrong, "filling")

    def test_great_webs(self):
        for bits in (slow_all_bits(12)[1], slow_all_bits(12)[-7]):
            told = filling_by(FULLEST, bits)
            self.is_same(bits_by(FULLEST, odds_of(FULLEST, bits), told), bits)
            self.is_same(bits_by(FULLEST, odds_of(FULLEST, bits), told[:6]), bits)
        self.is_same(many_settings(FULLEST, ("a", "b")), 2 ** 6)
        self.assertTrue(same(some_settings(FULLEST, ("a",)), None))


if __name__ == "__main__":
    unittest.main()
