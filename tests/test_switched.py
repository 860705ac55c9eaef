"""[64], [65] and [67]: switched_hall, setting_of, thing_of."""

import unittest

from keptopen.errors import NotUsable
from keptopen.hallchecker import lets_hall
from keptopen.oddparts import least_switched, odd_parts
from keptopen.plays import grasp, moves
from keptopen.switched import setting_of, switched_hall, thing_of
from keptopen.webparts import web_of
from keptopen.wholes import some_whole
from support import ANY, DOT, DOTS, EIGHT, FOUR, LADDER, NO_LOTS, NO_WEBS, RING, SEVEN, STAR, SWITCHED, THREE_BY_THREE, TWO, VALUE
from support import Case, all_lots, slow_all_bits, slow_gates_at, slow_right, slow_switched, slow_wholes, some_odds

# All of these are small enough for all sets of odd chests, and for all fillings.
SMALL = tuple([web for web in SWITCHED if len(web[0]) <= 4 and len(web[1]) <= 4]) + (TWO,)
# With seven chests and twelve gates, no chest of more than four.
FULLEST = (
    tuple("abcdefg"),
    tuple(sorted(SEVEN[1] + (("a", "c"), ("b", "d"), ("c", "e"), ("d", "f"), ("e", "g")))),
)


class SwitchedHall(Case):
    def test_webs_of_one_part_and_of_several(self):
        for seed, web in enumerate(SWITCHED + (FULLEST,)):
            for odds in some_odds(web, seed):
                hall = switched_hall(web, odds)
                self.is_same(hall, slow_switched(web, odds))
                self.assertEqual(lets_hall(hall), len(hall[2]))
                self.is_same(switched_hall(odds=odds, web=web), hall)

    def test_all_sets_of_odd_chests(self):
        for web in SMALL:
            for odds in all_lots(web[0]):
                self.is_same(switched_hall(web, odds), slow_switched(web, odds))

    def test_chests_without_gates(self):
        self.is_same(switched_hall(DOT, ()), (("a",), (1,), ()))
        self.is_same(switched_hall(DOT, ("a",)), (("a",), (1,), ((("a",), ()),)))
        never = ((("b",), ()), (("d",), ()))
        self.is_same(switched_hall(DOTS, ("b", "d")), (DOTS[0], (1, 1, 1, 1), never))
        web = (("a", "b", "c", "d"), (("b", "d"),))
        self.is_same(switched_hall(web, ("a", "b")), (web[0], (1, 1, 1, 1), ((("b", "d"), ()), (("a",), ()))))
        self.is_same(switched_hall(web, ("b", "c", "d")), (web[0], (1, 1, 1, 1), ((("b", "d"), ((0, 0),)), (("c",), ()))))

    def test_four_gates_at_a_chest(self):
        hall = switched_hall(STAR, ())
        self.is_same(hall[1], (1, 1, 8, 1, 1))
        # Of the eight settings of c those with the bit 0 for its first gate come first.
        self.is_same(hall[2][0], (("a", "c"), ((0, 0), (0, 1), (0, 2), (0, 3))))
        self.is_same(switched_hall(STAR, ("a",))[2][0], (("a", "c"), ((0, 4), (0, 5), (0, 6), (0, 7))))

    def test_seals_ascend(self):
        for web in SWITCHED[:30]:
            for lot, rows in switched_hall(web, web[0][:1])[2]:
                self.assertEqual(list(rows), sorted(set(rows)))
                self.assertTrue(len(lot) == 2 or rows == ())

    def test_wrong_values(self):
        good = {"web": RING, "odds": ()}
        self.refuses_parameter(switched_hall, good, "web", NO_WEBS, "web")
        self.refuses_parameter(switched_hall, good, "odds", NO_LOTS, "odds")


class Things(Case):
    def test_settings_and_things(self):
        for seed, web in enumerate(SWITCHED + (FULLEST,)):
            for odds in some_odds(web, seed, 2):
                for chest in web[0]:
                    right = slow_right(web, odds, chest)
                    for thing, bits in enumerate(right):
                        self.is_same(setting_of(web, odds, chest, thing), bits)
                        self.is_same(thing_of(web, odds, chest, bits), thing)
                        self.is_same(setting_of(thing=thing, chest=chest, odds=odds, web=web), bits)
                        self.is_same(thing_of(bits=bits, chest=chest, odds=odds, web=web), thing)
                    for wrong in (len(right), -1, True, False, None, "0", (0,)):
                        self.refuses(NotUsable("thing", wrong), setting_of, web, odds, chest, wrong)
                    for bits in slow_all_bits(len(slow_gates_at(web, chest))):
                        if bits not in right:
                            self.refuses(NotUsable("bits", -1), thing_of, web, odds, chest, bits)

    def test_chests_without_gates(self):
        for odds in ((), ("a",), ("a", "d")):
            self.is_same((setting_of(DOTS, odds, "a", 0), thing_of(DOTS, odds, "a", ())), ((), 0))
            self.refuses(NotUsable("thing", 1), setting_of, DOTS, odds, "a", 1)
            self.refuses(NotUsable("bits", -1), thing_of, DOTS, odds, "a", (0,))

    def test_wrong_values(self):
        for call, last in ((setting_of, "thing"), (thing_of, "bits")):
            good = {"web": RING, "odds": ("a",), "chest": "b", last: 0 if last == "thing" else (0, 0)}
            self.refuses_parameter(call, good, "web", NO_WEBS, "web")
            self.refuses_parameter(call, good, "odds", NO_LOTS, "odds")
            wrong = [value for value in ANY if value not in ("a", "b")] + ["d", "bb", ("b",), ["b"]]
            self.refuses_parameter(call, good, "chest", wrong, "chest", VALUE)
        good = {"web": RING, "odds": ("a",), "chest": "b", "thing": 1}
        wrong = [value for value in ANY if not (type(value) is int and value in (0, 1))] + [2, (0, 0), [0], -1]
        self.refuses_parameter(setting_of, good, "thing", wrong, "thing", VALUE)
        good = {"web": RING, "odds": ("a",), "chest": "b", "bits": (1, 1)}
        wrong = ANY + ((0, 1), (1, 0), (1, True), (True, True), (False, 0), (1, 1, 1), (1,), [1, 1], (2, 0), (-1, 1), ("1", "1"))
        self.refuses_parameter(thing_of, good, "bits", wrong, "bits")


class Consequences(Case):
    def test_sizes_and_webs(self):
        for seed, web in enumerate(SWITCHED):
            for odds in some_odds(web, seed):
                hall = switched_hall(web, odds)
                for chest, size in zip(*hall[:2]):
                    many = len(slow_gates_at(web, chest))
                    self.assertEqual(size, 2 ** max(many - 1, 0))
                self.is_same(web_of(hall), web)

    def test_kept_exactly_without_odd_parts(self):
        for web in SMALL:
            for odds in all_lots(web[0]):
                self.assertEqual(bool(slow_wholes(slow_switched(web, odds))), odd_parts(web, odds) == ())
        for web in (EIGHT, FOUR, LADDER, SEVEN):
            for odds in some_odds(web, 3):
                self.assertEqual(some_whole(switched_hall(web, odds)) is not None, odd_parts(web, odds) == ())

    def test_grasp_is_the_least_size_of_an_odd_part(self):
        for web in SMALL:
            for odds in all_lots(web[0]):
                self.is_same(grasp(switched_hall(web, odds)), least_switched(web, odds))
        for web in (EIGHT, LADDER, SEVEN):
            for odds in (web[0][:1], web[0][1:4]):
                hall, least = switched_hall(web, odds), least_switched(web, odds)
                self.assertIsNone(moves(hall, least - 1))
                self.assertIsNotNone(moves(hall, least))

    def test_the_greatest_web(self):
        for odds in ((), ("a",), FULLEST[0]):
            hall = switched_hall(FULLEST, odds)
            self.is_same((len(hall[2]), max(hall[1])), (12, 8))
        hall = switched_hall(THREE_BY_THREE, ("a",))
        self.assertIsNone(moves(hall, 3))
        self.is_same(least_switched(THREE_BY_THREE, ("a",)), 4)


if __name__ == "__main__":
    unittest.main()
