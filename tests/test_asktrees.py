"""[39], [40] and [42]: least_depth, least_leaves, ask_tree, lean_tree."""

import functools
import itertools
import unittest

from keptopen.askchecker import lets_tree
from keptopen.asktrees import ask_tree, lean_tree, least_depth, least_leaves
from keptopen.plays import moves
from support import ALONE, FREE, KEPT, LINE, LONG, LOST, NAMED, NEVER, NO_HALLS, PAIR, SPLIT, SUMS, THREES, TIED, TRIO, WIDE
from support import Case, answers, drawn_tree, slow_breaks, slow_leaves, slow_sound, slow_wholes

TINY = (PAIR, TRIO, TIED, NAMED, NEVER, SPLIT, THREES, LINE, ALONE, FREE)
NONES = (None, None, None, None)


def all_four(hall):
    """What the four functions tell."""
    return (least_depth(hall), least_leaves(hall), ask_tree(hall), lean_tree(hall))


@functools.lru_cache(None)
def slow_least(hall, filling=()):
    """The least depth and the least number of leaves behind the filling, None for each where there is no tree."""
    if not slow_sound(hall, filling):
        return (0, 1)
    found = []
    for chest in hall[0]:
        if chest not in dict(filling):
            told = [slow_least(hall, longer) for longer in answers(hall, filling, chest)]
            if (None, None) not in told:
                found.append((1 + max(depth for depth, _ in told), sum(leaves for _, leaves in told)))
    if not found:
        return (None, None)
    return (min(depth for depth, _ in found), min(leaves for _, leaves in found))


def measures_of_all(hall, filling=()):
    """The set of the pairs (depth, leaves) of all question trees behind the filling."""
    found = set() if slow_sound(hall, filling) else {(0, 1)}
    for chest in hall[0]:
        if chest not in dict(filling):
            told = [measures_of_all(hall, longer) for longer in answers(hall, filling, chest)]
            for one in itertools.product(*told):
                found.add((1 + max(depth for depth, _ in one), sum(leaves for _, leaves in one)))
    return found


class Least(Case):
    def test_ordinary_halls(self):
        for hall in LOST:
            depth, leaves = slow_least(hall)
            self.is_same((least_depth(hall), least_depth(hall=hall)), (depth, depth))
            self.is_same((least_leaves(hall), least_leaves(hall=hall)), (leaves, leaves))
            for tree in (ask_tree(hall), ask_tree(hall=hall)):
                self.is_same(lets_tree(hall, tree)[0], depth)
            for tree in (lean_tree(hall), lean_tree(hall=hall)):
                self.is_same(lets_tree(hall, tree)[1], leaves)

    def test_of_all_question_trees_there_are(self):
        for hall in TINY:
            told = measures_of_all(hall)
            self.assertEqual(len(told) == 0, len(slow_wholes(hall)) > 0)
            self.is_same(least_depth(hall), min([depth for depth, _ in told], default=None))
            self.is_same(least_leaves(hall), min([leaves for _, leaves in told], default=None))

    def test_halls_that_can_be_kept(self):
        for hall in KEPT + (ALONE, FREE):
            self.is_same(all_four(hall), NONES)

    def test_leaves_are_broken_and_no_chest_is_asked_twice(self):
        for hall in LOST:
            for tree in (ask_tree(hall), lean_tree(hall)):
                self.assertIs(type(tree), tuple)
                for way, filling, index in slow_leaves(hall, tree):
                    self.assertEqual((len(way), slow_breaks(hall, filling, index)), (len(filling), True))

    def test_edges(self):
        self.is_same(all_four(NEVER)[:3], (1, 3, ("a", (("broken", 0),) * 3)))
        self.is_same(all_four((("a",), (1,), ((("a",), ()),))), (1, 1, ("a", (("broken", 0),)), ("a", (("broken", 0),))))
        self.is_same(all_four((("a",), (1,), ((("a",), ((0,),)),))), NONES)
        self.is_same((least_depth(SPLIT), least_leaves(SPLIT)), (1, 2))
        self.is_same((least_depth(LONG), least_depth(SUMS), least_leaves(LONG)), (3, 5, 7))

    def test_a_chest_called_broken(self):
        self.is_same((least_depth(NAMED), least_leaves(NAMED)), (2, 3))
        for tree in (ask_tree(NAMED), lean_tree(NAMED)):
            self.assertEqual(lets_tree(NAMED, tree), (2, 3))
        only = (("broken",), (2,), ((("broken",), ((0,),)), (("broken",), ((1,),))))
        self.is_same(ask_tree(only), ("broken", (("broken", 1), ("broken", 0))))

    def test_least_depth_and_fewest_leaves_may_need_two_trees(self):
        # Both trees are right, though no tree is the best by both numbers.
        chests, sizes = ("a", "b", "c", "d"), (4, 2, 2, 2)
        found = False
        for hall in LOST + ((chests, sizes, ((("a", "b"), tuple((k, k & 1) for k in range(4))), (("b",), ()))),):
            both = {lets_tree(hall, ask_tree(hall)), lets_tree(hall, lean_tree(hall))}
            found = found or len(both) == 2
            self.assertEqual(min(both)[0], least_depth(hall))
        self.assertTrue(found)

    def test_wrong_values(self):
        for call in (least_depth, least_leaves, ask_tree, lean_tree):
            self.refuses_parameter(call, {"hall": PAIR}, "hall", NO_HALLS, "hall")

    def test_great_halls(self):
        for hall in WIDE:
            told = all_four(hall)
            self.assertEqual(told == NONES, len(slow_wholes(hall)) > 0)
            if told != NONES:
                self.assertEqual((lets_tree(hall, told[2])[0], lets_tree(hall, told[3])[1]), told[:2])


class Consequences(Case):
    def test_no_tree_is_better(self):
        for hall in LOST:
            for seed in range(4):
                depth, leaves = lets_tree(hall, drawn_tree(hall, seed))
                self.assertGreaterEqual(depth, least_depth(hall))
                self.assertGreaterEqual(leaves, least_leaves(hall))

    def test_further_seals_and_fewer_rows_keep_all_trees(self):
        for hall in LOST:
            tree = drawn_tree(hall, 5)
            more = hall[:2] + (hall[2] + ((hall[0][:1], ((0,),)),),)
            fewer = [
                hall[:2] + (hall[2][:k] + ((lot, rows[1:]),) + hall[2][k + 1 :],) for k, (lot, rows) in enumerate(hall[2]) if rows
            ]
            for other in [more] + fewer[:3]:
                self.assertEqual(lets_tree(other, tree), lets_tree(hall, tree))
                self.assertLessEqual(least_depth(other), least_depth(hall))
                self.assertLessEqual(least_leaves(other), least_leaves(hall))

    def test_the_seals_that_leaves_name_cannot_all_hold(self):
        for hall in LOST:
            for tree in (ask_tree(hall), lean_tree(hall)):
                named = sorted({index for _, _, index in slow_leaves(hall, tree)})
                self.assertEqual(slow_wholes(hall[:2] + (tuple([hall[2][index] for index in named]),)), ())

    def test_least_leaves_are_as_many_as_the_seals_that_are_needed(self):
        for hall in TINY:
            if not slow_wholes(hall):
                for many in range(len(hall[2]) + 1):
                    picks = itertools.combinations(hall[2], many)
                    if any(not slow_wholes(hall[:2] + (pick,)) for pick in picks):
                        self.assertGreaterEqual(least_leaves(hall), many)
                        break

    def test_least_depth_is_the_fewest_moves(self):
        for hall in LOST:
            for m in range(least_depth(hall), len(hall[0]) + 2):
                self.assertEqual(moves(hall, m), least_depth(hall))


if __name__ == "__main__":
    unittest.main()
