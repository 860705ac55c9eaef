"""[43] and the consequences in [46]: leaves_of, leaf_for."""

import unittest

from keptopen.askways import leaf_for, leaves_of
from support import ANY, LONG, LOST, NAMED, NEVER, NO_HALLS, PAIR, SUMS, Case, drawn_tree, slow_fillings, slow_leaves
from test_askchecker import LEAVES, TREE, WRONG_TREES

NO_TREES = ANY + WRONG_TREES
FEW = tuple([hall for hall in LOST if hall not in (LONG, SUMS)])


def wholes(hall):
    """All whole fillings, sound or not."""
    return [one for one in slow_fillings(hall) if len(one) == len(hall[0])]


class LeavesOf(Case):
    def test_drawn_trees(self):
        for hall in LOST:
            for seed in range(4):
                tree = drawn_tree(hall, seed)
                right = tuple([(filling, index) for _, filling, index in slow_leaves(hall, tree)])
                self.is_same(leaves_of(hall, tree), right)
                self.is_same(leaves_of(tree=tree, hall=hall), right)

    def test_edges(self):
        self.is_same(leaves_of(NEVER, ("a", (("broken", 0),) * 3)), tuple([((("a", thing),), 0) for thing in range(3)]))
        self.is_same(leaves_of(PAIR, TREE), (((("a", 0), ("b", 0)), 2), ((("a", 0), ("b", 1)), 1), ((("a", 1),), 0)))
        # The filling ascends by its chests, whatever was asked first.
        tree = ("b", (("broken", 2), ("a", (("broken", 1), ("broken", 0)))))
        self.is_same(leaves_of(PAIR, tree), (((("b", 0),), 2), ((("a", 0), ("b", 1)), 1), ((("a", 1), ("b", 1)), 0)))
        tree = ("z", (("broken", 2), ("broken", (("broken", 0), ("broken", 1)))))
        self.is_same(leaves_of(NAMED, tree)[1:], (((("broken", 0), ("z", 1)), 0), ((("broken", 1), ("z", 1)), 1)))

    def test_wrong_values(self):
        good = {"hall": PAIR, "tree": TREE}
        self.refuses_parameter(leaves_of, good, "hall", NO_HALLS, "hall")
        self.refuses_parameter(leaves_of, good, "tree", NO_TREES, "tree")


class LeafFor(Case):
    def test_drawn_trees(self):
        for hall in FEW:
            for seed in range(3):
                tree = drawn_tree(hall, seed)
                leaves = slow_leaves(hall, tree)
                for whole in wholes(hall):
                    right = [(filling, index) for _, filling, index in leaves if set(filling) <= set(whole)]
                    self.assertEqual(len(right), 1)
                    self.is_same(leaf_for(hall, tree, whole), right[0])
                    self.is_same(leaf_for(filling=whole, tree=tree, hall=hall), right[0])

    def test_edges(self):
        self.is_same(leaf_for(PAIR, TREE, (("a", 1), ("b", 0))), ((("a", 1),), 0))
        self.is_same(leaf_for(PAIR, TREE, (("a", 0), ("b", 1))), ((("a", 0), ("b", 1)), 1))

    def test_wrong_values(self):
        good = {"hall": PAIR, "tree": TREE, "filling": (("a", 0), ("b", 1))}
        self.refuses_parameter(leaf_for, good, "hall", NO_HALLS, "hall")
        self.refuses_parameter(leaf_for, good, "tree", NO_TREES, "tree")
        wrong = (
            (("a", 0),), (("b", 0),), (("a", 0), ("b", 2)), (("a", False), ("b", 0)), (("b", 0), ("a", 0)), [("a", 0), ("b", 1)],
            (("a", 0), ("b", 1), ("c", 0)), (("a", 0), ["b", 1]), (("a", 0), ("c", 1)), LEAVES,
        )
        self.refuses_parameter(leaf_for, good, "filling", ANY + wrong, "filling")


class Consequences(Case):
    def test_the_leaves_share_all_whole_fillings(self):
        for hall in LOST:
            sizes = dict(zip(*hall[:2]))
            for seed in range(4):
                many = 0
                for filling, _ in leaves_of(hall, drawn_tree(hall, seed)):
                    ways = 1
                    for chest in hall[0]:
                        ways *= 1 if chest in dict(filling) else sizes[chest]
                    many += ways
                total = 1
                for size in hall[1]:
                    total *= size
                self.assertEqual(many, total)


if __name__ == "__main__":
    unittest.main()
