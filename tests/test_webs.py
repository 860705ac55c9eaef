"""[55] and [56]: class Web."""

import unittest

from keptopen.bags import size_of_web, tree_of_bags
from keptopen.errors import InvalidPaper, NotUsable
from keptopen.thickets import thicket
from keptopen.webchecker import lets_web
from keptopen.webpapers import web_paper
from keptopen.webparts import neighbors, parts_without
from keptopen.webs import Web
from support import ANY, DOT, DOTS, FOUR, FULL, NO_WEBS, RING, STAR, TWO, VALUE, WAY, WEBS, WRONG_WEBS, Case, all_lots, drawn_web
from test_plays import NO_MS

METHODS = (
    "__init__", "of", "web_now", "least_size", "tree", "thicket_for", "paper_for", "__getitem__", "__call__", "__contains__",
    "__len__", "__iter__", "__eq__", "__add__", "__sub__", "__or__", "without", "joined",
)
NO_GATES = ANY + (("a", "d"), ("b", "a"), ("a", "a"), ["a", "b"], ("a", "b", "c"), ("a",), ("a", None), (("a",), "b"), "ab", ("a", True))


def pairs_of(web):
    """All pairs of two chests, the first less than the second."""
    return [(one, other) for one in web[0] for other in web[0] if one < other]


class WebCase(Case):
    def is_web(self, one, web):
        """The object is a Web of just this web."""
        self.assertIs(type(one), Web)
        self.is_same(one.web_now, web)


class Making(WebCase):
    def test_right_values(self):
        for web in WEBS:
            self.is_web(Web(web[0], *web[1]), web)
            self.is_web(Web.of(web), web)
            self.is_web(Web.of(web=web), web)
        self.is_web(Web(chests=("a", "b")), (("a", "b"), ()))

    def test_wrong_values(self):
        for value in NO_WEBS:
            with self.assertRaises(InvalidPaper) as caught:
                Web.of(value)
            with self.assertRaises(InvalidPaper) as right:
                lets_web(value)
            self.is_same(tuple(vars(caught.exception).values()), tuple(vars(right.exception).values()))
            if type(value) is tuple and len(value) == 2 and type(value[1]) is tuple:
                self.refuses(right.exception, Web, value[0], *value[1])
        self.refuses(InvalidPaper("shape", -1), Web.of, list(WAY))
        self.refuses(InvalidPaper("gates", -1), Web.of, (WAY[0], list(WAY[1])))
        self.refuses(InvalidPaper("chests", -1), Web, ["a"], ("a", "b"))
        self.refuses(InvalidPaper("gate", 1), Web, ("a", "b"), ("a", "b"), ("a", "c"))
        self.refuses(InvalidPaper("order", 1), Web, ("a", "b"), ("a", "b"), ("a", "b"))
        self.refuses(InvalidPaper("gate", 0), Web, ("a", "b"), (("a", "b"),))
        self.assertGreater(len(WRONG_WEBS), 20)

    def test_each_method_is_defined_in_the_class(self):
        for name in METHODS:
            self.assertIn(name, vars(Web))


class Asking(WebCase):
    def test_sizes_and_papers(self):
        for web in WEBS:
            one = Web.of(web)
            self.is_same(one.least_size(), size_of_web(web))
            self.is_same(one.tree(), tree_of_bags(web))
            for m in (2, 3):
                self.is_same((one.thicket_for(m), one.paper_for(m=m)), (thicket(web, m), web_paper(web, m)))
        self.is_same((Web.of(RING).thicket_for(m=2), Web.of(RING).paper_for(9)), (thicket(RING, 2), web_paper(RING, 9)))
        self.refuses_parameter(Web.of(RING).thicket_for, {"m": 2}, "m", NO_MS, "m", VALUE)
        self.refuses_parameter(Web.of(RING).paper_for, {"m": 2}, "m", NO_MS, "m", VALUE)

    def test_neighbors(self):
        for web in WEBS:
            for chest in web[0]:
                self.is_same(Web.of(web)[chest], neighbors(web, chest))
        for value in [value for value in ANY if value not in ("a", "b")] + ["d", ("a",), 0]:
            self.refuses(NotUsable("chest", value), Web.of(WAY).__getitem__, value)

    def test_parts(self):
        for web in (RING, WAY, DOT, DOTS, TWO, STAR):
            one = Web.of(web)
            for lot in all_lots(web[0]):
                self.is_same(one(lot), parts_without(web, lot))
                self.is_same(one(lot=lot), parts_without(web, lot))
        wrong = [value for value in ANY if not (type(value) is tuple and value in ((), ("a",), ("a", "b")))]
        wrong += [("b", "a"), ("a", "a"), ("a", "d"), ["a"], ("a", 1)]
        self.refuses_parameter(Web.of(WAY), {"lot": ()}, "lot", wrong, "lot")

    def test_in(self):
        for web in WEBS:
            one = Web.of(web)
            for gate in pairs_of(web):
                self.assertIs(gate in one, gate in web[1])
                self.assertIs((gate[1], gate[0]) in one, False)
        for value in ANY:
            self.assertIs(value in Web.of(WAY), type(value) is tuple and value == ("a", "b"))
        for value in ("a", "b", ["a", "b"], ("a", "c"), ("a", "b", "c"), WAY, (("a", "b"),), Web.of(WAY)):
            self.assertIs(value in Web.of(WAY), False)

    def test_len_and_iteration(self):
        for web in WEBS:
            self.is_same(len(Web.of(web)), len(web[0]))
            self.is_same(list(Web.of(web)), list(web[0]))

    def test_equal(self):
        for web in WEBS[:20]:
            for other in WEBS[:20]:
                self.assertIs(Web.of(web) == Web.of(other), web == other)
                self.assertIs(Web.of(web) != Web.of(other), web != other)
            for value in ANY + (web,):
                self.assertIs(Web.of(web) == value, False)


class Changing(WebCase):
    def test_a_gate_more_or_less(self):
        for web in WEBS:
            one = Web.of(web)
            for gate in pairs_of(web):
                if gate in web[1]:
                    self.is_web(one - gate, (web[0], tuple([other for other in web[1] if other != gate])))
                    self.refuses(NotUsable("gate", -1), one.__add__, gate)
                else:
                    self.is_web(one + gate, (web[0], tuple(sorted(web[1] + (gate,)))))
                    self.refuses(NotUsable("gate", -1), one.__sub__, gate)
                    self.refuses(NotUsable("gate", -1), one.joined, gate)
            self.is_web(one, web)

    def test_without(self):
        for web in WEBS:
            if len(web[0]) > 1:
                for chest in web[0]:
                    left = tuple([name for name in web[0] if name != chest])
                    right = (left, tuple([gate for gate in web[1] if chest not in gate]))
                    self.is_web(Web.of(web).without(chest), right)
                    self.is_web(Web.of(web).without(chest=chest), right)
        wrong = [value for value in ANY if value not in ("a", "b")] + ["d", ("a",)]
        self.refuses_parameter(Web.of(WAY).without, {"chest": "a"}, "chest", wrong, "chest", VALUE)
        # The only one.
        self.refuses_parameter(Web.of(DOT).without, {"chest": None}, "chest", ANY + ("a",), "chest", VALUE)

    def test_joined(self):
        for web in WEBS:
            for gate in web[1]:
                kept, gone = gate
                ends = {chest: kept if chest == gone else chest for chest in web[0]}
                gates = {tuple(sorted((ends[one], ends[other]))) for one, other in web[1] if ends[one] != ends[other]}
                right = (tuple([chest for chest in web[0] if chest != gone]), tuple(sorted(gates)))
                self.is_web(Web.of(web).joined(gate), right)
                self.is_web(Web.of(web).joined(gate=gate), right)

    def test_joined_edges(self):
        self.is_web(Web.of(RING).joined(("a", "b")), (("a", "c"), (("a", "c"),)))
        self.is_web(Web.of(FOUR).joined(("c", "d")), RING)
        self.is_web(Web.of((("a", "b"), (("a", "b"),))).joined(("a", "b")), DOT)
        # The lesser name may come after that of a neighbor.
        far = (("a", "m", "z"), (("a", "z"), ("m", "z")))
        self.is_web(Web.of(far).joined(("m", "z")), (("a", "m"), (("a", "m"),)))

    def test_wrong_gates(self):
        joined = [value for value in NO_GATES if not (type(value) is tuple and value == ("a", "b"))]
        self.refuses_parameter(Web.of(WAY).joined, {"gate": ("a", "b")}, "gate", joined, "gate")
        for value in joined:
            self.refuses(NotUsable("gate", -1), Web.of(WAY).__sub__, value)
        for value in NO_GATES:
            self.refuses(NotUsable("gate", -1), Web.of(WAY).__add__, value)
            self.refuses(NotUsable("gate", -1), Web.of(DOT).__add__, value)

    def test_both_webs(self):
        webs = (RING, WAY, DOT, DOTS, TWO, STAR) + FULL[:2] + (drawn_web(5), drawn_web(11), (("c", "d"), (("c", "d"),)))
        for web in webs:
            for other in webs:
                right = (tuple(sorted(set(web[0] + other[0]))), tuple(sorted(set(web[1] + other[1]))))
                self.is_web(Web.of(web) | Web.of(other), right)
        for value in ANY + (WAY, RING):
            self.refuses(NotUsable("other", -1), Web.of(WAY).__or__, value)

    def test_a_web_never_changes(self):
        one = Web.of(RING)
        one - ("a", "b"), one.without("a"), one.joined(("a", "b")), one | Web.of(DOTS), one.tree(), list(one).append(None)
        with self.assertRaises(AttributeError):
            one.web_now = None
        self.is_web(one, RING)
        self.is_same(list(one), ["a", "b", "c"])


class Consequences(WebCase):
    def test_no_greater_with_less(self):
        for web in WEBS[:50]:
            one = Web.of(web)
            size = one.least_size()
            for gate in web[1]:
                self.assertLessEqual((one - gate).least_size(), size)
                self.assertLessEqual(one.joined(gate).least_size(), size)
            if len(one) > 1:
                for chest in one:
                    self.assertLessEqual(one.without(chest).least_size(), size)

    def test_no_less_with_more(self):
        for web in WEBS[:50]:
            one = Web.of(web)
            size = one.least_size()
            for gate in [gate for gate in pairs_of(web) if gate not in one][:5]:
                self.assertGreaterEqual((one + gate).least_size(), size)
            for other in (RING, STAR, DOTS):
                both = one | Web.of(other)
                self.assertGreaterEqual(both.least_size(), max(size, size_of_web(other)))

    def test_there_and_back(self):
        for web in WEBS:
            one = Web.of(web)
            for gate in pairs_of(web):
                self.assertIs((((one - gate) + gate) if gate in one else ((one + gate) - gate)) == one, True)
            self.assertIs(one | one == one, True)


if __name__ == "__main__":
    unittest.main()
