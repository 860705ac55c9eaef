"""[7] and [49]: neighbors, parts_without, web_of."""

import unittest

from keptopen.hallparts import gates_of
from keptopen.webchecker import lets_web
from keptopen.webparts import neighbors, parts_without, web_of
from support import ALONE, ANY, DOT, DOTS, DRAWN, FREE, HALLS, NO_HALLS, NO_WEBS, RING, STAR, TIGHT, TWO, VALUE, WAY, WEBS, Case
from support import all_lots, slow_hangs, slow_pieces


class Neighbors(Case):
    def test_ordinary_webs(self):
        for web in WEBS:
            for chest in web[0]:
                right = [name for name in web[0] if (name, chest) in web[1] or (chest, name) in web[1]]
                self.is_same(neighbors(web, chest), tuple(right))
                self.is_same(neighbors(chest=chest, web=web), tuple(right))

    def test_edges(self):
        self.is_same((neighbors(DOT, "a"), neighbors(DOTS, "c")), ((), ()))
        self.is_same((neighbors(STAR, "c"), neighbors(STAR, "e"), neighbors(WAY, "b")), (("a", "b", "d", "e"), ("c",), ("a", "c")))

    def test_wrong_values(self):
        good = {"web": RING, "chest": "a"}
        self.refuses_parameter(neighbors, good, "web", NO_WEBS, "web")
        wrong = [value for value in ANY if value not in ("a", "b")] + ["d", "ab", ("a",), 0]
        self.refuses_parameter(neighbors, good, "chest", wrong, "chest", VALUE)
        self.refuses_parameter(neighbors, {"web": DOT, "chest": "a"}, "chest", wrong + ["b"], "chest", VALUE)


class PartsWithout(Case):
    def test_ordinary_webs(self):
        for web in WEBS:
            if len(web[0]) < 7:
                for lot in all_lots(web[0]):
                    self.is_same(parts_without(web, lot), slow_pieces(web, lot))
                self.is_same(parts_without(lot=(), web=web), slow_pieces(web, ()))

    def test_parts_hang_together_and_share_no_gate(self):
        for web in WEBS:
            for lot in all_lots(web[0]):
                parts = parts_without(web, lot)
                self.assertEqual(sorted(parts), list(parts))
                self.assertEqual(sorted([chest for part in parts for chest in part] + list(lot)), list(web[0]))
                self.assertTrue(all(slow_hangs(web, part) for part in parts))
                for one, other in web[1]:
                    self.assertLessEqual(len([part for part in parts if one in part or other in part]), 1)

    def test_edges(self):
        for web in WEBS:
            self.is_same(parts_without(web, web[0]), ())
        self.is_same(parts_without(DOTS, ()), (("a",), ("b",), ("c",), ("d",)))
        self.is_same((parts_without(DOT, ()), parts_without(DOT, ("a",))), ((("a",),), ()))
        self.is_same(parts_without(TWO, ("y",)), (("a", "b", "c"), ("z",)))
        self.is_same((parts_without(WAY, ("b",)), parts_without(WAY, ("a",))), ((("a",), ("c",)), (("b", "c"),)))

    def test_many_chests(self):
        letters = "abcdefghijklmnopqrstuvwxyz"
        names = tuple([one + other for one in letters for other in letters])
        web = (names, tuple(zip(names, names[1:])))
        self.is_same(parts_without(web, ()), (names,))
        self.is_same(parts_without(web, names[100:101]), (names[:100], names[101:]))
        self.is_same(len(parts_without((names, ()), names[::2])), 338)

    def test_wrong_values(self):
        good = {"web": WAY, "lot": ()}
        self.refuses_parameter(parts_without, good, "web", NO_WEBS, "web")
        wrong = [value for value in ANY if not (type(value) is tuple and value in ((), ("a",), ("a", "b")))]
        wrong += [("b", "a"), ("a", "a"), ("d",), ("a", "d"), ["a"], ("a", 1), ("a", None), "a", (("a",),)]
        self.refuses_parameter(parts_without, good, "lot", wrong, "lot")


class WebOf(Case):
    def test_ordinary_halls(self):
        for hall in HALLS + DRAWN + TIGHT:
            gates = {(one, other) for lot, _ in hall[2] for one in lot for other in lot if one < other}
            web = (hall[0], tuple(sorted(gates)))
            self.is_same(web_of(hall), web)
            self.is_same(web_of(hall=hall), web)
            self.is_same(lets_web(web_of(hall)), len(gates_of(hall)))

    def test_edges(self):
        self.is_same(web_of(ALONE), (("a",), ()))
        self.is_same(web_of(FREE), (("a", "b", "c"), ()))
        self.is_same(web_of((("a", "b", "c"), (1, 1, 10**40), ((("a", "b", "c"), ()), (("b",), ())))), RING)

    def test_wrong_values(self):
        self.refuses_parameter(web_of, {"hall": ALONE}, "hall", NO_HALLS, "hall")


if __name__ == "__main__":
    unittest.main()
