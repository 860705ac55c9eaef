"""[39] and [41]: lets_tree."""

import unittest

from keptopen.askchecker import lets_tree
from keptopen.errors import InvalidPaper
from support import ALONE, ANY, FREE, LINE, LOST, NAMED, NEVER, NO_HALLS, PAIR, TIED, TRIO, Case, copied, drawn_tree, slow_leaves

LEAVES = (("broken", 2), ("broken", 1))
TREE = ("a", (("b", LEAVES), ("broken", 0)))
# Each of these has just one fault, but is a question tree of PAIR otherwise.
WRONG_TREES = (
    list(TREE), TREE[:1], TREE + ((),), ("broken", 0), ("broken", True), ("c", TREE[1]), ("a", list(TREE[1])), (True, TREE[1]),
    ("a", TREE[1][:1]), ("a", TREE[1] + LEAVES), ("a", (TREE[1][0], ("broken", False))), ("a", (TREE[1][0], ("broken", 3))),
    ("a", (TREE[1][0], ("broken", -1))), ("a", (TREE[1][0], ("broken", 1))), ("a", (TREE[1][0], ["broken", 0])),
    ("a", (("a", LEAVES), ("broken", 0))), ("a", (("broken", 0), ("broken", 0))), ("a", (("b", LEAVES), ("Broken", 0))),
    (("a",), TREE[1]), (("b", LEAVES), TREE), ("b", TREE[1]), ("a", (("b", (("broken", 2), None)), ("broken", 0))), ("a", ()),
)


class TreeCase(Case):
    def wrong(self, hall, thing, word, at):
        self.refuses(InvalidPaper(word, at), lets_tree, hall, thing)
        self.refuses(InvalidPaper(word, at), lets_tree, thing=thing, hall=hall)

    def wrong_inside(self, subtree, word, at, hall=TIED):
        """The subtree behind b, which is asked first, and the thing 1."""
        self.wrong(hall, ("b", (("a", (("c", (("broken", 3), ("broken", 2))), ("broken", 0))), subtree)), word, (1,) + at)


class Right(TreeCase):
    def test_drawn_trees(self):
        for hall in LOST:
            for seed in range(8):
                tree = drawn_tree(hall, seed)
                told = slow_leaves(hall, tree)
                measures = (max(len(way) for way, _, _ in told), len(told))
                self.is_same(lets_tree(hall, tree), measures)
                self.is_same(lets_tree(thing=tree, hall=hall), measures)

    def test_edges(self):
        self.is_same(lets_tree(NEVER, ("a", (("broken", 0),) * 3)), (1, 3))
        self.is_same(lets_tree((("a",), (1,), ((("a",), ()),)), ("a", (("broken", 0),))), (1, 1))
        self.is_same(lets_tree(PAIR, TREE), (2, 3))
        # A leaf may name any seal that is broken, and a question may come after the break.
        self.is_same(lets_tree(PAIR, ("a", (("b", LEAVES), ("b", (("broken", 2), ("broken", 0)))))), (2, 4))
        self.is_same(lets_tree(PAIR, ("a", (("b", LEAVES), ("b", (("broken", 1), ("broken", 0)))))), (2, 4))

    def test_a_chest_called_broken(self):
        # The leaf has a number, the question a tuple.
        inner = ("broken", (("broken", 2), ("broken", 1)))
        self.wrong(NAMED, ("z", (inner, ("broken", 0))), "sound", (1,))
        right = ("z", (("broken", 2), ("broken", (("broken", 0), ("broken", 1)))))
        self.is_same(lets_tree(NAMED, right), (2, 3))
        self.is_same(lets_tree(NAMED, ("broken", (("z", (("broken", 2), ("broken", 0))), ("broken", 1)))), (2, 3))
        self.wrong(NAMED, ("broken", (("broken", ()), ("broken", 1))), "chest", (0,))
        self.wrong(NAMED, ("broken", ()), "subtrees", ())
        self.wrong(PAIR, ("broken", (("broken", 0), ("broken", 1))), "chest", ())

    def test_no_tree_of_a_hall_that_can_be_kept(self):
        self.wrong(FREE, ("a", (("broken", 0),)), "index", (0,))
        self.wrong(ALONE, ("a", (("broken", 0),)), "index", (0,))
        self.wrong(LINE, ("c", (("broken", 1),)), "sound", (0,))


class Wrong(TreeCase):
    def test_wrong_values(self):
        self.refuses_parameter(lets_tree, {"hall": PAIR, "thing": TREE}, "hall", NO_HALLS, "hall")

    def test_wrong_trees(self):
        for value in WRONG_TREES:
            with self.assertRaises(InvalidPaper):
                lets_tree(PAIR, value)

    def test_shape(self):
        for value in ANY:
            if not (type(value) is tuple and len(value) == 2):
                self.wrong(PAIR, value, "shape", -1)
        for value in (list(TREE), ("a",), ("a", TREE[1], 0), "ab", ["broken", 0]):
            self.wrong(PAIR, value, "shape", -1)

    def test_tree(self):
        for value in ANY:
            pair = type(value) is tuple and len(value) == 2
            if pair:
                self.wrong(PAIR, value, "tree", ())
            self.wrong(PAIR, ("a", (("b", LEAVES), value)), "tree", (1,))
            self.wrong(PAIR, ("a", (("b", (LEAVES[0], value)), ("broken", 0))), "tree", (0, 1))
            self.wrong(PAIR, (value, None), "tree", ())
        wrong = (("broken", True), ("broken", "0"), ("broken", None), ("broken", []), ("Broken", 0), ("a", 0), (0, ()), (None, 0))
        for value in wrong:
            self.wrong(PAIR, value, "tree", ())
            self.wrong_inside(value, "tree", ())
        wrong = (["broken", 3], ("a", list(LEAVES)), ("a", LEAVES, 0), ("broken",), ((), ()), (("a",), LEAVES), (["a"], LEAVES))
        for value in wrong:
            self.wrong_inside(value, "tree", ())

    def test_index(self):
        for index in (-1, 3, 4, 10**59, -(10**59)):
            self.wrong(PAIR, ("broken", index), "index", ())
            self.wrong(PAIR, ("a", (("b", (("broken", 2), ("broken", index))), ("broken", 0))), "index", (0, 1))

    def test_sound(self):
        for index in (0, 1, 2):
            # Nothing is broken at the top.
            self.wrong(PAIR, ("broken", index), "sound", ())
        self.wrong(PAIR, ("a", (("b", LEAVES), ("broken", 1))), "sound", (1,))
        self.wrong(PAIR, ("a", (("b", (("broken", 1), ("broken", 1))), ("broken", 0))), "sound", (0, 0))
        self.wrong(PAIR, ("a", (("b", (("broken", 2), ("broken", 2))), ("broken", 0))), "sound", (0, 1))
        # With the other thing the seal would be broken.
        self.wrong(PAIR, ("a", (("broken", 0), ("b", LEAVES))), "sound", (0,))

    def test_chest(self):
        for chest in ("c", "", "A", "aa", "Broken", "a b"):
            self.wrong(PAIR, (chest, TREE[1]), "chest", ())
            self.wrong(PAIR, ("a", ((chest, LEAVES), ("broken", 0))), "chest", (0,))
        self.wrong(PAIR, ("a", (("a", LEAVES), ("broken", 0))), "chest", (0,))
        self.wrong(PAIR, ("a", (("b", (("broken", 2), ("a", LEAVES))), ("broken", 0))), "chest", (0, 1))
        # A chest may be asked on several ways, though not twice on one.
        both = ("b", (("a", (("broken", 2), ("broken", 0))), ("a", (("broken", 1), ("broken", 0)))))
        self.is_same(lets_tree(PAIR, both), (2, 4))

    def test_subtrees(self):
        for subtrees in ((), LEAVES[:1], LEAVES + LEAVES[:1], (None,)):
            self.wrong(PAIR, ("a", subtrees), "subtrees", ())
            self.wrong(PAIR, ("a", (("b", subtrees), ("broken", 0))), "subtrees", (0,))
            self.wrong(PAIR, ("a", (("b", LEAVES), ("b", subtrees))), "subtrees", (1,))
        hall = (("a", "b"), (10**40, 1), ((("b",), ()),))
        self.wrong(hall, ("a", LEAVES), "subtrees", ())
        self.is_same(lets_tree(hall, ("b", (("broken", 0),))), (1, 1))

    def test_the_first_of_two_faults(self):
        self.wrong(PAIR, ("broken", (None,)), "chest", ())
        self.wrong(PAIR, ("c", (None,)), "chest", ())
        self.wrong(PAIR, ("a", (None,)), "subtrees", ())
        self.wrong(PAIR, ("a", (("b", (None,)), None)), "subtrees", (0,))
        self.wrong(PAIR, ("a", (("a", (None,)), None)), "chest", (0,))
        self.wrong(PAIR, ("a", (("broken", 7), None)), "index", (0,))
        self.wrong(PAIR, ("a", (("broken", 0), None)), "sound", (0,))
        self.wrong(PAIR, ("a", (None, ("broken", 7))), "tree", (0,))
        # One subtree with all in it, then the next one.
        self.wrong(PAIR, ("a", (("b", (("broken", 2), ("broken", 0))), ("broken", 7))), "sound", (0, 1))
        self.wrong(PAIR, ("a", (("b", (("broken", 9), None)), ("c", ()))), "index", (0, 0))
        self.wrong(PAIR, ("a", (("b", LEAVES), ("c", ()))), "chest", (1,))
        self.wrong(TRIO, ("a", (("b", (("broken", 0), ("c", (("broken", 0), None)))), None)), "sound", (0, 1, 0))

    def test_the_argument_does_not_change(self):
        for value in (TREE, ("a", [("b", LEAVES)]), ["a", [LEAVES]]):
            before = copied(value)
            try:
                lets_tree(PAIR, value)
            except InvalidPaper as error:
                self.assertEqual(vars(error).keys(), {"word", "at"})
            self.is_same(value, before)


if __name__ == "__main__":
    unittest.main()
