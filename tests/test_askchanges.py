"""[44] and the consequences in [46]: order_tree, pruned_tree."""

import itertools
import unittest

from keptopen.askchanges import order_tree, pruned_tree
from keptopen.askchecker import lets_tree
from support import ALONE, ANY, FREE, KEPT, LONG, LOST, NAMED, NEVER, NO_HALLS, PAIR, SPLIT, SUMS, TIED, WIDE, Case, answers
from support import drawn_tree, slow_breaks, slow_leaves, slow_wholes
from test_askchecker import LEAVES, TREE
from test_askways import NO_TREES

FEW = tuple([hall for hall in LOST if hall not in (LONG, SUMS)])
NO_ORDERS = ANY + (
    ["a", "b", "c"], ("a", "b"), ("a", "b", "c", "c"), ("a", "b", "b"), ("a", "b", "d"), ("a", "b", "c", "d"), ("a", ("b",), "c"),
    ("a", "b", None), ("a", "b", ["c"]), ("a", 0, "c"), "abc", ("A", "b", "c"), ("a", "a", "a"),
)


def broken(hall, filling):
    """The indexes of the seals that the filling breaks."""
    return [k for k in range(len(hall[2])) if slow_breaks(hall, filling, k)]


def slow_ordered(hall, order, filling=()):
    """The tree that asks what is left of the order, None if a way comes to no end."""
    if broken(hall, filling):
        return ("broken", broken(hall, filling)[0])
    if not order:
        return None
    told = [slow_ordered(hall, order[1:], longer) for longer in answers(hall, filling, order[0])]
    return None if None in told else (order[0], tuple(told))


def slow_pruned(hall, tree, filling=()):
    """The tree with a leaf at each place that is broken."""
    if broken(hall, filling):
        return ("broken", broken(hall, filling)[0])
    after = zip(tree[1], answers(hall, filling, tree[0]))
    return (tree[0], tuple([slow_pruned(hall, subtree, longer) for subtree, longer in after]))


class OrderTree(Case):
    def test_every_order_of_small_halls(self):
        for hall in FEW + (NAMED,):
            for order in itertools.permutations(hall[0]):
                tree = order_tree(hall, order)
                self.is_same(tree, slow_ordered(hall, order))
                self.is_same(order_tree(order=order, hall=hall), tree)
                told = lets_tree(hall, tree)
                self.assertLessEqual(told[0], len(hall[0]))
                for way, filling, index in slow_leaves(hall, tree):
                    self.assertEqual(sorted(order[: len(way)]), [chest for chest, _ in filling])
                    self.assertEqual(index, broken(hall, filling)[0])

    def test_orders_of_great_halls(self):
        for hall in (LONG, SUMS) + WIDE:
            for order in (hall[0], hall[0][::-1], hall[0][3:] + hall[0][:3]):
                tree = order_tree(hall, order)
                self.assertEqual(tree is None, len(slow_wholes(hall)) > 0)
                self.is_same(tree, slow_ordered(hall, order))

    def test_halls_that_can_be_kept(self):
        for hall in KEPT:
            for order in (hall[0], hall[0][::-1]):
                self.assertIs(order_tree(hall, order), None)
        # A leaf may stand on each way but one.
        self.assertIs(order_tree((("a", "b"), (1, 2), ((("b",), ((1,),)),)), ("b", "a")), None)

    def test_edges(self):
        self.is_same(order_tree(NEVER, ("a",)), ("a", (("broken", 0),) * 3))
        self.is_same(order_tree(SPLIT, ("a", "b")), ("a", (("b", (("broken", 1), ("broken", 0))),)))
        self.is_same(order_tree(SPLIT, ("b", "a")), ("b", (("broken", 1), ("broken", 0))))
        self.is_same(order_tree(PAIR, ("a", "b")), TREE)

    def test_wrong_values(self):
        good = {"hall": TIED, "order": ("a", "b", "c")}
        self.refuses_parameter(order_tree, good, "hall", NO_HALLS, "hall")
        self.refuses_parameter(order_tree, good, "order", NO_ORDERS, "order")
        # Of a hall that can be kept, too.
        wrong = [value for value in NO_ORDERS if value != ("a", "b", "c")]
        self.refuses_parameter(order_tree, {"hall": FREE, "order": ("c", "b", "a")}, "order", wrong, "order")
        wrong = [value for value in ANY if value != ("a",)] + [("b",), ("a", "a"), ["a"]]
        self.refuses_parameter(order_tree, {"hall": ALONE, "order": ("a",)}, "order", wrong, "order")


class PrunedTree(Case):
    def test_drawn_trees(self):
        for hall in LOST:
            for seed in range(5):
                tree = drawn_tree(hall, seed)
                less = pruned_tree(hall, tree)
                self.is_same(less, slow_pruned(hall, tree))
                self.is_same(pruned_tree(tree=tree, hall=hall), less)
                before, after = lets_tree(hall, tree), lets_tree(hall, less)
                self.assertTrue(after[0] <= before[0] and after[1] <= before[1])
                self.is_same(pruned_tree(hall, less), less)

    def test_order_trees_stay(self):
        for hall in FEW:
            for order in itertools.permutations(hall[0]):
                self.is_same(pruned_tree(hall, order_tree(hall, order)), order_tree(hall, order))

    def test_leaves_get_the_least_index(self):
        late = ("a", (("b", (("broken", 2), ("broken", 1))), ("b", (("broken", 2), ("broken", 0)))))
        self.is_same(pruned_tree(PAIR, late), TREE)
        self.is_same(pruned_tree(SPLIT, ("b", (("broken", 1), ("broken", 2)))), ("b", (("broken", 1), ("broken", 0))))
        tree = ("z", (("broken", (("broken", 2), ("broken", 1))), ("broken", (("broken", 0), ("broken", 1)))))
        self.is_same(pruned_tree(NAMED, tree), ("z", (("broken", 2), ("broken", (("broken", 0), ("broken", 1))))))

    def test_wrong_values(self):
        good = {"hall": PAIR, "tree": ("b", (LEAVES[0], ("a", (LEAVES[1], ("broken", 0)))))}
        self.refuses_parameter(pruned_tree, good, "hall", NO_HALLS, "hall")
        self.refuses_parameter(pruned_tree, good, "tree", NO_TREES, "tree")


if __name__ == "__main__":
    unittest.main()
