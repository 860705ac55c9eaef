"""[57], [58] and [60]: many_by, some_by, counts_at, dead_at."""

import unittest

from keptopen.bagchecker import lets_bags
from keptopen.bags import tree_of_bags
from keptopen.bybags import counts_at, dead_at, many_by, some_by
from keptopen.webparts import web_of
from keptopen.wholes import many_wholes
from support import ALONE, ANY, DRAWN, FREE, GREAT, HALLS, LINE, LONG, NEVER, NO_HALLS, ODD, PAIR, ROW, SAME, SPLIT, SUMS, TIED
from support import TIGHT, VALUE, Case, drawn_bags, great_hall, slow_counts, slow_sound, slow_web, slow_wholes
from test_bagchecker import BAGS

FEW = tuple([hall for hall in HALLS if hall not in (LONG, SUMS)]) + (TIED,) + DRAWN[:40] + TIGHT[:10]
ALIKE = ((("a",), ((0,),)), (("a", "b"), SAME), (("b", "c"), SAME), (("c", "d"), SAME))
LOOSE = (tuple("abcd"), (2, 2, 2, 2), ALIKE)
ENDS = LOOSE[:2] + (ALIKE + ((("d",), ((1,),)),),)
# Of six chests with four things each, and twelve seals.
FAIR = tuple([great_hall(seed, (4,) * 6, 70) for seed in range(3)])
TWOS = ((("a", "b"), ("b", "c"), ("c", "d")), ((0, 1), (1, 2)))
NO_INDEXES = tuple([value for value in ANY if not (type(value) is int and value in (0, 1, 2))]) + (-1, 3, "0", (0,), [0])


def trees(hall, many=3):
    """Some trees of bags of the web of the hall, and of a greater web that the hall is on."""
    web = slow_web(hall)
    pairs = [(a, b) for a in web[0] for b in web[0] if a < b]
    greater = (web[0], tuple(sorted(set(web[1]) | set(pairs[::2]))))
    return [((web[0],), ())] + [drawn_bags(web, seed) for seed in range(many)] + [drawn_bags(greater, 7)]


class ByBags(Case):
    def test_drawn_trees_are_right_and_of_many_kinds(self):
        kinds = set()
        for hall in FEW:
            for bags in trees(hall):
                self.assertGreater(lets_bags(web_of(hall), bags), 0)
                kinds |= {len(bags[0]) > 4, () in bags[0], len(set(bags[0])) < len(bags[0])}
        self.assertEqual(kinds, {True, False})

    def test_many_and_some(self):
        for hall in FEW:
            wholes = slow_wholes(hall)
            for bags in trees(hall):
                self.is_same(many_by(hall, bags), len(wholes))
                self.is_same(many_by(bags=bags, hall=hall), len(wholes))
                for told in (some_by(hall, bags), some_by(bags=bags, hall=hall)):
                    if wholes:
                        self.assertIn(told, wholes)
                        self.is_same(told, wholes[wholes.index(told)])
                    else:
                        self.assertIs(told, None)

    def test_counts_and_dead_fillings(self):
        for hall in FEW:
            for bags in trees(hall, 2):
                for first in range(len(bags[0])):
                    for index in range(len(bags[0])):
                        right = slow_counts(hall, bags, first, index)
                        self.is_same(counts_at(hall, bags, first, index), right)
                        self.is_same(dead_at(hall, bags, first, index), tuple([one for one, number in right if number == 0]))
                index = len(bags[0]) - 1
                told = counts_at(index=index, first=0, bags=bags, hall=hall)
                self.is_same(told, counts_at(hall, bags, 0, index))
                self.is_same(dead_at(index=index, first=0, bags=bags, hall=hall), dead_at(hall, bags, 0, index))

    def test_edges(self):
        one = ((("a",),), ())
        self.is_same([many_by(ALONE, one), some_by(ALONE, one), counts_at(ALONE, one, 0, 0)], [1, (("a", 0),), (((("a", 0),), 1),)])
        self.is_same([many_by(NEVER, one), some_by(NEVER, one)], [0, None])
        self.is_same([counts_at(NEVER, one, 0, 0), dead_at(NEVER, one, 0, 0)], [(), ()])
        apart = ((("b",), ("c",), (), ("a",)), ((0, 2), (1, 2), (2, 3)))
        self.is_same([many_by(FREE, apart), counts_at(FREE, apart, 0, 2)], [6, (((), 3),)])
        self.is_same(counts_at(FREE, apart, 2, 1), tuple([((("c", thing),), 1) for thing in range(3)]))
        # A bag without sound fillings makes those dead that come ahead of it, and () among them.
        split = ((("b",), (), ("a",)), ((0, 1), (1, 2)))
        self.is_same([counts_at(SPLIT, split, 2, 1), dead_at(SPLIT, split, 2, 2)], [(((), 0),), ((("a", 0),),)])
        self.is_same(dead_at(SPLIT, split, 0, 1), ())

    def test_halls_of_six_chests(self):
        for hall in (LONG, SUMS):
            for seed in range(4):
                bags = drawn_bags(slow_web(hall), seed)
                self.is_same((many_by(hall, bags), some_by(hall, bags)), (0, None))
                kept = hall[:2] + (hall[2][:-1],)
                bags = drawn_bags(slow_web(hall), seed + 10)
                self.is_same(many_by(kept, bags), len(slow_wholes(kept)))
                self.assertTrue(slow_sound(kept, some_by(kept, bags)))

    def test_wrong_halls_and_bags(self):
        for call in (many_by, some_by):
            good = {"hall": LINE, "bags": ((LINE[0],), ())}
            self.refuses_parameter(call, good, "hall", NO_HALLS, "hall")
        wrong = ANY + (list(TWOS), TWOS[:1], (TWOS[0], ()), (TWOS[0], ((0, 1), (0, 2))), (TWOS[0][:2], ((0, 1),)), BAGS)
        wrong += ((TWOS[0], [(0, 1), (1, 2)]), (list(TWOS[0]), TWOS[1]))
        for call in (many_by, some_by):
            self.refuses_parameter(call, {"hall": ENDS, "bags": TWOS}, "bags", wrong, "bags")
        for call in (counts_at, dead_at):
            good = {"hall": ENDS, "bags": TWOS, "first": 0, "index": 1}
            self.refuses_parameter(call, good, "hall", NO_HALLS, "hall")
            self.refuses_parameter(call, good, "bags", wrong, "bags")

    def test_bags_go_by_the_seals(self):
        # Three chests of one seal are joined, each two of them.
        bags = ((("a", "b"), ("b", "c")), ((0, 1),))
        good = {"hall": ROW, "bags": bags}
        self.is_same(many_by(**good), 3)
        self.refuses_parameter(many_by, {"hall": LINE, "bags": None}, "bags", (bags, (), None, ((("a", "b", "c"),), (0,))), "bags")
        self.refuses_parameter(some_by, {"hall": ODD, "bags": None}, "bags", (bags, (), None, ((("a", "b", "c"),), (0,))), "bags")

    def test_wrong_indexes(self):
        for call in (counts_at, dead_at):
            good = {"hall": ENDS, "bags": TWOS, "first": 0, "index": 1}
            self.refuses_parameter(call, good, "first", NO_INDEXES, "first", VALUE)
            self.refuses_parameter(call, good, "index", NO_INDEXES, "index", VALUE)

    def test_great_halls(self):
        for hall in GREAT + FAIR:
            bags = tree_of_bags(web_of(hall))
            self.assertLessEqual(lets_bags(web_of(hall), bags), 5)
            told, many = some_by(hall, bags), many_by(hall, bags)
            self.assertEqual((told is not None, many), (many > 0, many_wholes(hall)))
            self.assertTrue(told is None or slow_sound(hall, told))
        self.assertEqual({many_by(hall, tree_of_bags(web_of(hall))) > 0 for hall in GREAT + FAIR}, {True, False})
        bag, free = tuple("abcde"), (tuple("abcdef"), (4,) * 6, ())
        many = ((bag,) * 60 + (("f",),), tuple([(k, k + 1) for k in range(60)]))
        self.is_same(many_by(free, many), 4096)
        self.is_same(len(counts_at(free, many, 60, 30)), 1024)
        self.assertEqual(some_by(free, many), tuple([(chest, 0) for chest in "abcdef"]))

    def test_very_many_bags(self):
        bags = ((("a", "b"),) + ((),) * 600, tuple([(k, k + 1) for k in range(600)]))
        self.is_same((many_by(PAIR, bags), some_by(PAIR, bags), dead_at(PAIR, bags, 600, 300)), (0, None, ((),)))
        spread = (bags[0], tuple([(0, k + 1) for k in range(600)]))
        self.is_same((many_by(PAIR, spread), dead_at(PAIR, spread, 600, 300)), (0, ()))


class Consequences(Case):
    def test_the_numbers_of_each_first_bag_are_all_wholes(self):
        for hall in FEW:
            many = many_wholes(hall)
            for bags in trees(hall, 2) + [tree_of_bags(web_of(hall))]:
                self.assertEqual(many_by(hall, bags), many)
                for first in range(len(bags[0])):
                    told = counts_at(hall, bags, first, first)
                    self.assertEqual(sum(number for _, number in told), many)
                    self.assertEqual(many == 0, len(dead_at(hall, bags, first, first)) == len(told))
                self.assertEqual(some_by(hall, bags) is None, many == 0)

    def test_a_bag_without_next_ones_has_no_dead_filling(self):
        for hall in FEW:
            for bags in trees(hall, 2):
                for first in range(len(bags[0])):
                    for index in range(len(bags[0])):
                        near = [link for link in bags[1] if index in link]
                        if (len(near) == 1 and index != first) or not near:
                            self.assertEqual(dead_at(hall, bags, first, index), ())


if __name__ == "__main__":
    unittest.main()
