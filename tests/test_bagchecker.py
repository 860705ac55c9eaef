"""[8] and [50]: lets_bags."""

import unittest

from keptopen.bagchecker import lets_bags
from keptopen.errors import InvalidPaper
from support import ANY, DOT, DOTS, FOUR, FULL, NO_WEBS, RING, SEVEN, STAR, TWO, WAY, WEBS, Case, copied

BAGS = ((("a", "b"), ("b", "c")), ((0, 1),))
# Each of these has just one fault, but is a tree of bags of WAY otherwise.
WRONG_BAGS = (
    list(BAGS), BAGS[:1], BAGS + ((),), (list(BAGS[0]), BAGS[1]), (BAGS[0], list(BAGS[1])), ((), ()), (BAGS[0], ()), (BAGS[0], None),
    (BAGS[0], ((1, 0),)), (BAGS[0], ((0, 2),)), (BAGS[0], ((0, 0),)), (BAGS[0], ((False, 1),)), (BAGS[0], ((0, True),)),
    (BAGS[0], ((0, 1), (0, 1))), (BAGS[0], ([0, 1],)), (BAGS[0], ((-1, 0),)), ((("b", "a"), ("b", "c")), BAGS[1]),
    ((["a", "b"], ("b", "c")), BAGS[1]), ((("a", "b"), ("b", "d")), BAGS[1]), ((("a", "b"), ("b",)), BAGS[1]),
    ((("a", "b"), ("c",)), BAGS[1]), (BAGS[0] + (("a",),), ((0, 1), (1, 2))), (BAGS[0] + ((),), ((0, 1),)),
    (BAGS[0] + ((),), ((0, 1), (0, 2), (1, 2))), (("a", "b", "c"), ()), ((("a", "b", "c"),), ((0, 1),)),
)


class BagsCase(Case):
    def right(self, web, bags, size):
        self.is_same(lets_bags(web, bags), size)
        self.is_same(lets_bags(thing=bags, web=web), size)

    def wrong(self, web, thing, word, at):
        self.refuses(InvalidPaper(word, at), lets_bags, web, thing)
        self.refuses(InvalidPaper(word, at), lets_bags, thing=thing, web=web)


class Right(BagsCase):
    def test_one_bag(self):
        for web in WEBS:
            self.right(web, ((web[0],), ()), len(web[0]))
            self.right(web, ((web[0], web[0]), ((0, 1),)), len(web[0]))

    def test_more_bags(self):
        self.right(WAY, BAGS, 2)
        self.right(DOT, ((("a",),), ()), 1)
        self.right(DOTS, ((("a",), ("b",), ("c",), ("d",)), ((0, 1), (0, 2), (0, 3))), 1)
        self.right(FOUR, ((("a", "b", "d"), ("b", "c", "d")), ((0, 1),)), 3)
        self.right(STAR, ((("c", "e"), ("a", "c"), ("b", "c"), ("c", "d")), ((0, 1), (0, 2), (0, 3))), 2)
        self.right(STAR, ((("c", "e"), ("a", "c"), ("b", "c"), ("c", "d")), ((0, 3), (1, 2), (2, 3))), 2)
        self.right(SEVEN, (tuple([("a", *two) for two in zip("bcdef", "cdefg")]), ((0, 1), (1, 2), (2, 3), (3, 4))), 3)
        self.right(TWO, ((("y", "z"), ("a", "b", "c")), ((0, 1),)), 3)

    def test_empty_bags_and_equal_ones(self):
        self.right(WAY, ((("a", "b"), ("b", "c"), ()), ((0, 1), (0, 2))), 2)
        self.right(WAY, ((("a", "b"), ("a", "b"), ("b", "c"), ("b",)), ((0, 1), (1, 3), (2, 3))), 2)
        self.right(DOTS, (((), ("a", "b"), (), ("c", "d"), ()), ((0, 1), (0, 2), (2, 3), (2, 4))), 2)
        # An empty bag may stand between bags that share nothing.
        self.right(TWO, ((("a", "b", "c"), (), ("y", "z")), ((0, 1), (1, 2))), 3)
        self.wrong(WAY, ((("a", "b"), (), ("b", "c")), ((0, 1), (1, 2))), "apart", "b")

    def test_bags_of_more_chests_than_needed(self):
        self.right(WAY, ((("a", "b", "c"), ("b", "c")), ((0, 1),)), 3)
        self.right(DOTS, ((("a", "b", "c"), ("b", "c", "d")), ((0, 1),)), 3)

    def test_limits_do_not_hold(self):
        letters = "abcdefghijklmnopqrstuvwxyz"
        names = tuple([one + other for one in letters for other in letters])[:600]
        gates = tuple(zip(names, names[1:]))
        self.right((names, gates), (gates, tuple([(k, k + 1) for k in range(598)])), 2)
        self.right((names, gates), ((names,) * 3, ((0, 1), (1, 2))), 600)
        # A bag of nearly all, and one for each chest beside it.
        spread = ((names,) + tuple([(name,) for name in names]), tuple([(0, k + 1) for k in range(600)]))
        self.right((names, gates), spread, 600)


class Wrong(BagsCase):
    def test_wrong_values(self):
        self.refuses_parameter(lets_bags, {"web": WAY, "thing": BAGS}, "web", NO_WEBS, "web")
        for value in WRONG_BAGS:
            with self.assertRaises(InvalidPaper):
                lets_bags(WAY, value)

    def test_shape(self):
        for value in ANY:
            pair = type(value) is tuple and len(value) == 2 and type(value[0]) is type(value[1]) is tuple and value[0] != ()
            self.wrong(WAY, value, *(("bag", 0) if pair else ("shape", -1)))
            if type(value) is not tuple:
                self.wrong(WAY, (value, ()), "shape", -1)
                self.wrong(WAY, (BAGS[0], value), "shape", -1)
        for value in (list(BAGS), BAGS[:1], BAGS + ((),), ((), ()), ((), ((0, 1),)), ((), (None,))):
            self.wrong(WAY, value, "shape", -1)

    def test_bag(self):
        wrong = (None, 1, True, "a", "ab", ["a"], ("a", "a"), ("b", "a"), ("d",), ("a", "d"), ("a", None), (("a",),), (0,), ("A",))
        for value in wrong:
            self.wrong(WAY, ((value,), ()), "bag", 0)
            self.wrong(WAY, (BAGS[0] + ((), value, None), BAGS[1]), "bag", 3)

    def test_link(self):
        wrong = (
            None, 1, (), "01", (0,), (0, 1, 2), [0, 1], (1, 0), (0, 0), (1, 1), (0, 2), (2, 3), (-1, 0), (-2, 1), (False, 1), (0, True),
            ("0", "1"), (0, None), ((0,), 1), (0, 10**59), (None, 1), ([0], 1),
        )
        for value in wrong:
            self.wrong(WAY, (BAGS[0], (value,)), "link", 0)
            self.wrong(WAY, (BAGS[0], ((0, 1), value, None)), "link", 1)

    def test_order(self):
        three = BAGS[0] + ((),)
        self.wrong(WAY, (three, ((0, 2), (0, 1))), "order", 1)
        self.wrong(WAY, (three, ((0, 1), (0, 1))), "order", 1)
        self.wrong(WAY, (three, ((1, 2), (0, 1), None)), "order", 1)
        self.wrong(WAY, (three + ((),), ((0, 1), (1, 3), (1, 2))), "order", 2)

    def test_tree(self):
        four = BAGS[0] + ((), ())
        self.wrong(WAY, (BAGS[0], ()), "tree", -1)
        self.wrong(WAY, (BAGS[0] + ((),), ((0, 1),)), "tree", -1)
        self.wrong(WAY, (BAGS[0] + ((),), ((0, 1), (0, 2), (1, 2))), "tree", -1)
        self.wrong(WAY, (four, ((0, 1), (0, 2), (1, 2))), "tree", -1)
        self.wrong(WAY, (four, ((0, 1), (2, 3))), "tree", -1)
        self.wrong(WAY, (four, ((0, 1), (0, 2), (1, 3), (2, 3))), "tree", -1)
        self.right(WAY, (four, ((0, 1), (1, 3), (2, 3))), 2)

    def test_chest(self):
        self.wrong(WAY, ((("a", "b"), ("b",)), ((0, 1),)), "chest", "c")
        self.wrong(DOTS, ((("b",), ("d",)), ((0, 1),)), "chest", "a")
        self.wrong(DOT, (((), ()), ((0, 1),)), "chest", "a")

    def test_gate(self):
        self.wrong(WAY, ((("a", "b"), ("c",)), ((0, 1),)), "gate", 1)
        self.wrong(RING, ((("a",), ("b", "c")), ((0, 1),)), "gate", 0)
        self.wrong(RING, ((("a", "b"), ("b", "c")), ((0, 1),)), "gate", 1)
        self.wrong(FULL[2], ((("a", "b", "c"), ("b", "c", "d")), ((0, 1),)), "gate", 2)

    def test_apart(self):
        self.wrong(WAY, ((("a", "b"), ("c",), ("b", "c")), ((0, 1), (1, 2))), "apart", "b")
        self.wrong(WAY, ((("a", "b"), ("b",), ("b", "c"), ("a",)), ((0, 1), (1, 2), (2, 3))), "apart", "a")
        self.wrong(DOTS, ((("a",), ("b", "c"), ("a", "d"), ("b",)), ((0, 1), (1, 2), (2, 3))), "apart", "a")
        # Its bags hang together in two groups.
        five = (("a", "b"), ("a",), ("b", "c"), ("a",), ("a", "b"))
        self.wrong(WAY, (five, ((0, 1), (0, 2), (2, 4), (3, 4))), "apart", "a")
        self.wrong(WAY, (five[:2] + (("a", "b", "c"),) + five[3:], ((0, 1), (1, 2), (2, 4), (3, 4))), "apart", "b")

    def test_the_first_of_two_faults(self):
        self.wrong(WAY, ((("a", "d"), ("b", "a")), (None,)), "bag", 0)
        self.wrong(WAY, (BAGS[0] + (None,), (None,)), "bag", 2)
        self.wrong(WAY, ((("a",), ("b",)), ((0, 2),)), "link", 0)
        self.wrong(WAY, ((("a",), ("b",), ()), ((0, 2), (0, 1), (1, 1))), "order", 1)
        self.wrong(WAY, ((("a",), ("b",), ()), ((0, 2), (1, 1), (0, 1))), "link", 1)
        self.wrong(WAY, ((("a",), ("b",)), ()), "tree", -1)
        self.wrong(WAY, ((("a",), ("b",)), ((0, 1),)), "chest", "c")
        # First all chests, then all gates, then the chests that are apart.
        self.wrong(WAY, ((("a",), ("b",), ("a",)), ((0, 1), (1, 2))), "chest", "c")
        self.wrong(WAY, ((("a",), ("b", "c"), ("a",)), ((0, 1), (1, 2))), "gate", 0)

    def test_the_arguments_do_not_change(self):
        for value in WRONG_BAGS:
            before = copied(value)
            with self.assertRaises(InvalidPaper):
                lets_bags(WAY, value)
            self.is_same(value, before)


if __name__ == "__main__":
    unittest.main()
