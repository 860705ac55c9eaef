"""[8], [9] (O3), [51] and [56]: size_of_web, tree_of_bags."""

import functools
import unittest

from keptopen.bagchecker import lets_bags
from keptopen.bags import size_of_web, tree_of_bags
from keptopen.plays import grasp, moves
from keptopen.webparts import parts_without, web_of
from support import DOT, DOTS, DRAWN, EIGHT, FOUR, FULL, HALLS, LADDER, NO_WEBS, RING, SEVEN, STAR, THREE_BY_THREE, TIGHT, TWO, WAY
from support import WEBS, WHEEL, Case, drawn_web, slow_pieces, slow_wholes


@functools.lru_cache(None)
def slow_size(web):
    """The size of a web by the fewest openers that catch one who flees along gates and sees them come."""
    return min(size for size in range(1, len(web[0]) + 1) if flees_no_more(web, size))


def flees_no_more(web, size):
    """Whether so many openers catch the one who flees, wherever this one begins."""
    caught = set()
    while True:
        fresh = {place for place in places(web, size) if place not in caught and some_step(web, size, place, caught)}
        if not fresh:
            return all(((), part) in caught for part in slow_pieces(web, ()))
        caught |= fresh


@functools.lru_cache(None)
def places(web, size):
    """All pairs of a set of at most so many chests that are watched and a part of the web without them."""
    sets = [()]
    for chest in web[0]:
        sets += [one + (chest,) for one in sets if len(one) < size]
    return [(watched, part) for watched in sets for part in slow_pieces(web, watched)]


def some_step(web, size, place, caught):
    """Whether one chest more or less to watch leaves only parts in which who flees is caught."""
    watched, part = place
    for chest in web[0]:
        after = tuple(sorted(set(watched) ^ {chest}))
        if len(after) <= size:
            # Of what can be reached while the watched chests of both are watched.
            reached = [one for one in slow_pieces(web, tuple(sorted(set(watched) & set(after)))) if set(part) <= set(one)][0]
            if all((after, one) in caught for one in slow_pieces(web, after) if set(one) & set(reached)):
                return True
    return False


class Sizes(Case):
    def test_ordinary_webs(self):
        for web in WEBS:
            if len(web[0]) < 7:
                self.is_same(size_of_web(web), slow_size(web))
                self.is_same(size_of_web(web=web), slow_size(web))

    def test_edges(self):
        self.is_same([size_of_web(web) for web in (DOT, DOTS, WAY, STAR, RING, FOUR, SEVEN)], [1, 1, 2, 2, 3, 3, 3])
        self.is_same([size_of_web(web) for web in (TWO, EIGHT, LADDER, THREE_BY_THREE)], [3, 3, 3, 4])
        self.is_same([size_of_web(web) for web in FULL], [2, 3, 4, 5])
        self.is_same([size_of_web((tuple("abcdefg"), ())), size_of_web((tuple("abcdefg"), (("b", "f"),)))], [1, 2])

    def test_seven_chests_and_twelve_gates(self):
        for web in [WHEEL, SEVEN] + [drawn_web(seed) for seed in range(200, 300)]:
            self.is_same(lets_bags(web, tree_of_bags(web)), size_of_web(web))
        # A ring of four, five or six, all of whose chests are joined with one more.
        for rim, told in (("abcd", 4), ("abcde", 4), ("abcdef", 4)):
            gates = list(zip(rim, rim[1:])) + [("a", rim[-1])] + [(chest, "g") for chest in rim]
            self.is_same(size_of_web((tuple(rim) + ("g",), tuple(sorted(gates)))), told)

    def test_wrong_values(self):
        for call in (size_of_web, tree_of_bags):
            self.refuses_parameter(call, {"web": RING}, "web", NO_WEBS, "web")


class Trees(Case):
    def test_ordinary_webs(self):
        for web in WEBS:
            for bags in (tree_of_bags(web), tree_of_bags(web=web)):
                self.is_same(lets_bags(web, bags), size_of_web(web))
                self.assertEqual((type(bags), len(bags)), (tuple, 2))
                self.is_same(bags, (tuple([tuple(bag) for bag in bags[0]]), tuple([tuple(link) for link in bags[1]])))


class Consequences(Case):
    def test_as_many_open_chests_as_the_size_tell_which_halls_can_be_kept(self):
        sizes = set()
        for hall in HALLS + DRAWN + TIGHT:
            size = size_of_web(web_of(hall))
            self.assertEqual(moves(hall, size) is None, len(slow_wholes(hall)) > 0)
            self.assertTrue(grasp(hall) is None or grasp(hall) <= size)
            sizes.add((size, grasp(hall)))
        self.assertGreater(len(sizes), 6)

    def test_the_greatest_size_of_a_part(self):
        for web in WEBS:
            parts = parts_without(web, ())
            alone = [(part, tuple([gate for gate in web[1] if gate[0] in part])) for part in parts]
            self.assertEqual(size_of_web(web), max(size_of_web(part) for part in alone))

    def test_webs_without_gates_and_without_rings(self):
        for web in WEBS:
            rings = len(web[1]) > len(web[0]) - len(parts_without(web, ()))
            self.assertEqual(size_of_web(web) == 1, web[1] == ())
            self.assertEqual(size_of_web(web) == 2, len(web[1]) > 0 and not rings)

    def test_as_many_as_the_chests_if_each_two_are_joined(self):
        for web in WEBS:
            many = len(web[0])
            self.assertEqual(size_of_web(web) == many, len(web[1]) == many * (many - 1) // 2)

    def test_halls_on_a_web(self):
        for hall in DRAWN[:60] + TIGHT[:30]:
            web = web_of(hall)
            missing = [(a, b) for a in web[0] for b in web[0] if a < b and (a, b) not in web[1]]
            for gate in missing[:4]:
                more = (web[0], tuple(sorted(web[1] + (gate,))))
                self.assertLessEqual(size_of_web(web), size_of_web(more))
                self.assertLessEqual(lets_bags(web, tree_of_bags(more)), size_of_web(more))


if __name__ == "__main__":
    unittest.main()
