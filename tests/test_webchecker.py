"""[7] and [48]: lets_web."""

import unittest

from keptopen.errors import InvalidPaper
from keptopen.webchecker import lets_web
from support import ANY, DOT, NO_WEBS, RING, WAY, WEBS, WRONG_WEBS, Case, copied

CHESTS = ("a", "b", "c")


class WebCase(Case):
    def wrong(self, thing, word, at):
        self.refuses(InvalidPaper(word, at), lets_web, thing)
        self.refuses(InvalidPaper(word, at), lets_web, thing=thing)


class Right(WebCase):
    def test_webs(self):
        for web in WEBS:
            self.is_same(lets_web(web), len(web[1]))
            self.is_same(lets_web(thing=web), len(web[1]))

    def test_edges(self):
        self.is_same([lets_web(RING), lets_web(WAY), lets_web(DOT), lets_web((("a",), ()))], [3, 2, 0, 0])

    def test_limits_do_not_hold(self):
        letters = "abcdefghijklmnopqrstuvwxyz"
        names = tuple([one + other for one in letters for other in letters])
        gates = tuple([(one, other) for one, other in zip(names, names[1:])])
        self.is_same(lets_web((names, gates)), len(names) - 1)
        few = names[:40]
        self.is_same(lets_web((few, tuple([(one, other) for one in few for other in few if one < other]))), 780)


class Wrong(WebCase):
    def test_no_webs(self):
        for value in NO_WEBS:
            with self.assertRaises(InvalidPaper):
                lets_web(value)

    def test_shape(self):
        for value in ANY:
            if not (type(value) is tuple and len(value) == 2):
                self.wrong(value, "shape", -1)
        for value in (list(WAY), WAY[:1], WAY + ((),), "ab", ["a", "b"]):
            self.wrong(value, "shape", -1)

    def test_chests(self):
        for value in ANY:
            if value not in (("a",), ("a", "b")):
                self.wrong((value, ()), "chests", -1)
        for chests in ((), ["a"], ("b", "a"), ("a", "a"), ("A",), ("",), ("abcdefghi",), ("a", 1), ("a", ("b",)), "a", ("a b",), ("a\n",)):
            self.wrong((chests, ()), "chests", -1)
            self.wrong((chests, None), "chests", -1)

    def test_gates(self):
        for value in ANY:
            if type(value) is not tuple:
                self.wrong((CHESTS, value), "gates", -1)

    def test_gate(self):
        wrong = (
            None, 1, (), "ab", ("a",), ("a", "b", "c"), ["a", "b"], ("b", "a"), ("a", "a"), ("a", "d"), ("d", "e"), ("a", None), (0, 1),
            (("a",), "b"), (["a"], "b"), ("a", True), ("A", "b"),
        )
        for value in wrong:
            self.wrong((CHESTS, (value,)), "gate", 0)
            self.wrong((CHESTS, (("a", "b"), ("b", "c"), value, None)), "gate", 2)
        for value in ANY:
            if not (type(value) is tuple and value == ("a", "b")):
                self.wrong((CHESTS, (value,)), "gate", 0)

    def test_order(self):
        self.wrong((CHESTS, (("a", "b"), ("a", "b"))), "order", 1)
        self.wrong((CHESTS, (("a", "c"), ("a", "b"))), "order", 1)
        self.wrong((CHESTS, (("a", "b"), ("b", "c"), ("a", "c"))), "order", 2)

    def test_the_first_of_two_faults(self):
        self.wrong((("b", "a"), None), "chests", -1)
        self.wrong((CHESTS, (("b", "c"), ("a", "b"), None)), "order", 1)
        self.wrong((CHESTS, (("b", "c"), ("b", "a"))), "gate", 1)
        self.wrong((CHESTS, (("b", "c"), None, ("a", "b"))), "gate", 1)

    def test_the_argument_does_not_change(self):
        for value in WRONG_WEBS:
            before = copied(value)
            with self.assertRaises(InvalidPaper):
                lets_web(value)
            self.is_same(value, before)


if __name__ == "__main__":
    unittest.main()
