"""[46]: class Quest."""

import itertools
import unittest

from keptopen.askchanges import order_tree, pruned_tree
from keptopen.askchecker import lets_tree
from keptopen.askrows import rows_of_tree
from keptopen.asktrees import ask_tree, lean_tree
from keptopen.askways import leaf_for, leaves_of
from keptopen.errors import NotUsable
from keptopen.quests import Quest
from support import ALONE, ANY, FREE, KEPT, LONG, LOST, NAMED, NEVER, NO_HALLS, PAIR, SUMS, TIED, Case, drawn_tree
from support import slow_fillings, slow_leaves
from test_askchanges import NO_ORDERS
from test_askchecker import LEAVES, TREE
from test_askways import NO_TREES, wholes

FEW = tuple([hall for hall in LOST if hall not in (LONG, SUMS)])
METHODS = (
    "__init__", "__len__", "__iter__", "__contains__", "__eq__", "__call__", "__getitem__", "pruned", "listed", "least", "lean",
    "ordered", "hall_now", "tree_now", "depth_now", "leaves_now",
)


def both(hall):
    """Two question trees of the hall."""
    return (drawn_tree(hall, 1), drawn_tree(hall, 2))


class QuestCase(Case):
    def is_quest(self, one, hall, tree):
        """The object is a Quest of just these."""
        self.assertIs(type(one), Quest)
        self.is_same((one.hall_now, one.tree_now), (hall, tree))


class Making(QuestCase):
    def test_right_values(self):
        for hall in LOST:
            for tree in both(hall):
                self.is_quest(Quest(hall, tree), hall, tree)
                self.is_quest(Quest(tree=tree, hall=hall), hall, tree)

    def test_wrong_values(self):
        good = {"hall": PAIR, "tree": TREE}
        self.refuses_parameter(Quest, good, "hall", NO_HALLS, "hall")
        self.refuses_parameter(Quest, good, "tree", NO_TREES, "tree")

    def test_class_methods(self):
        for hall in LOST:
            self.is_quest(Quest.least(hall), hall, ask_tree(hall))
            self.is_quest(Quest.least(hall=hall), hall, ask_tree(hall))
            self.is_quest(Quest.lean(hall), hall, lean_tree(hall))
            self.is_quest(Quest.lean(hall=hall), hall, lean_tree(hall))
            for order in (hall[0], hall[0][::-1]):
                self.is_quest(Quest.ordered(hall, order), hall, order_tree(hall, order))
                self.is_quest(Quest.ordered(order=order, hall=hall), hall, order_tree(hall, order))

    def test_class_methods_of_halls_that_can_be_kept(self):
        for hall in KEPT:
            self.is_same((Quest.least(hall), Quest.lean(hall), Quest.ordered(hall, hall[0])), (None, None, None))

    def test_class_methods_with_wrong_values(self):
        self.refuses_parameter(Quest.least, {"hall": PAIR}, "hall", NO_HALLS, "hall")
        self.refuses_parameter(Quest.lean, {"hall": PAIR}, "hall", NO_HALLS, "hall")
        good = {"hall": TIED, "order": ("a", "b", "c")}
        self.refuses_parameter(Quest.ordered, good, "hall", NO_HALLS, "hall")
        self.refuses_parameter(Quest.ordered, good, "order", NO_ORDERS, "order")
        wrong = [value for value in ANY if value != ("a",)]
        self.refuses_parameter(Quest.ordered, {"hall": ALONE, "order": ("a",)}, "order", wrong, "order")

    def test_each_method_is_defined_in_the_class(self):
        for name in METHODS:
            self.assertIn(name, vars(Quest))


class Asking(QuestCase):
    def test_numbers_and_leaves(self):
        for hall in LOST:
            for tree in both(hall):
                one = Quest(hall, tree)
                self.is_same((one.depth_now, one.leaves_now), lets_tree(hall, tree))
                self.is_same(len(one), lets_tree(hall, tree)[1])
                self.is_same(list(one), list(leaves_of(hall, tree)))

    def test_in(self):
        for hall in FEW:
            for tree in both(hall):
                one = Quest(hall, tree)
                ends = [filling for _, filling, _ in slow_leaves(hall, tree)]
                for filling in slow_fillings(hall):
                    self.assertIs(filling in one, filling in ends)
        one = Quest(PAIR, TREE)
        for value in ANY + (TREE, LEAVES, (("a", True),), [("a", 1)], (("b", 1), ("a", 0)), ((("a", 1),), 0), one):
            self.assertIs(value in one, False)
        self.assertIs((("a", 1),) in one, True)

    def test_equal(self):
        trees = [(hall, tree) for hall in (PAIR, TIED, NAMED, NEVER) for tree in both(hall)] + [(PAIR, TREE)]
        more = PAIR[:2] + (PAIR[2] + ((("a",), ((0,),)),),)
        trees += [(more, TREE), (more, drawn_tree(PAIR, 1))]
        for hall, tree in trees:
            for other in trees:
                self.assertIs(Quest(hall, tree) == Quest(*other), (hall, tree) == other)
                self.assertIs(Quest(hall, tree) != Quest(*other), (hall, tree) != other)
            for value in ANY + (hall, tree):
                self.assertIs(Quest(hall, tree) == value, False)

    def test_called_with_a_filling(self):
        for hall in FEW:
            for tree in both(hall):
                one = Quest(hall, tree)
                for whole in wholes(hall):
                    self.is_same(one(whole), leaf_for(hall, tree, whole))
                    self.is_same(one(filling=whole), leaf_for(hall, tree, whole))
        wrong = ANY + ((("a", 0),), (("a", 0), ("b", 2)), (("b", 0), ("a", 0)), [("a", 0), ("b", 0)], (("a", True), ("b", 0)))
        self.refuses_parameter(Quest(PAIR, TREE), {"filling": (("a", 0), ("b", 0))}, "filling", wrong, "filling")

    def test_ways(self):
        for hall in FEW:
            for tree in both(hall):
                self.goes_along(Quest(hall, tree), tree, ())

    def goes_along(self, one, tree, way):
        """The way leads to the tree, each way on to a subtree, and none goes on behind a leaf."""
        self.is_same(one[way], tree)
        subtrees = tree[1] if type(tree[1]) is tuple else ()
        for thing, subtree in enumerate(subtrees):
            self.goes_along(one, subtree, way + (thing,))
        for value in (len(subtrees), -1, None, True, "0", (0,), [0], 10**59):
            self.refuses(NotUsable("way", -1), one.__getitem__, way + (value,))

    def test_wrong_ways(self):
        one = Quest(PAIR, TREE)
        for value in ANY:
            if not same_way(value):
                self.refuses(NotUsable("way", -1), one.__getitem__, value)
        for value in ([0], [], (2,), (1, 0), (0, 0, 0), (0, 2), (True,), (0, False), "", "0", 0, 1, (1, "broken")):
            self.refuses(NotUsable("way", -1), one.__getitem__, value)
        for value in (0, (True,), (1, 0)):
            with self.assertRaises(NotUsable):
                one[value]


def same_way(value):
    """Whether a value is one of the ways () and (1,) of TREE."""
    return type(value) is tuple and (value == () or (value == (1,) and type(value[0]) is int))


class Changing(QuestCase):
    def test_pruned_and_listed(self):
        for hall in LOST:
            for tree in both(hall):
                one = Quest(hall, tree)
                self.is_quest(one.pruned(), hall, pruned_tree(hall, tree))
                self.is_same(one.listed(), rows_of_tree(hall, tree))
                self.is_quest(one, hall, tree)

    def test_a_quest_never_changes(self):
        one = Quest(PAIR, TREE)
        before = (one.hall_now, one.tree_now, one.depth_now, one.leaves_now, list(one))
        one.pruned(), one.listed(), one[()], one((("a", 0), ("b", 0))), list(one).append(None)
        for name in ("hall_now", "tree_now", "depth_now", "leaves_now"):
            with self.assertRaises(AttributeError):
                setattr(one, name, None)
        self.is_same((one.hall_now, one.tree_now, one.depth_now, one.leaves_now, list(one)), before)


class Consequences(QuestCase):
    def test_order_trees_are_pruned(self):
        for hall in FEW:
            for order in itertools.permutations(hall[0]):
                one = Quest.ordered(hall, order)
                self.assertIs(one == one.pruned(), True)

    def test_pruning_makes_no_number_greater(self):
        for hall in LOST:
            for tree in both(hall):
                one, less = Quest(hall, tree), Quest(hall, tree).pruned()
                self.assertTrue(less.depth_now <= one.depth_now and less.leaves_now <= one.leaves_now)
                self.assertIs(less == less.pruned(), True)

    def test_each_whole_filling_goes_to_just_one_leaf(self):
        for hall in FEW + (NAMED,):
            one = Quest.least(hall)
            for whole in wholes(hall):
                ends = [leaf for leaf in one if set(leaf[0]) <= set(whole)]
                self.is_same([one(whole)], ends)

    def test_kept_halls_have_no_tree(self):
        self.assertIs(Quest.least(FREE), None)
        self.assertIs(Quest.ordered(FREE, ("c", "a", "b")), None)


if __name__ == "__main__":
    unittest.main()
