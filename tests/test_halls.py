"""[19]: class Hall."""

import unittest

from keptopen.errors import InvalidPaper, InvalidText, NotUsable
from keptopen.hallchanges import renamed, with_seal, without_seal
from keptopen.hallparts import gates_of, seals_of, size_of
from keptopen.halls import Hall
from keptopen.halltexts import hall_text
from support import ALONE, ANY, DRAWN, HALLS, LINE, MANY, NO_HALLS, PAIR, ROW, SPLIT, VALUE, Case
from test_hallchanges import NO_SEALS

METHODS = (
    "__init__", "__getitem__", "__call__", "__contains__", "__len__", "__iter__", "__str__", "__eq__", "__add__", "__sub__",
    "__or__", "size", "gates", "called", "of", "read", "hall_now", "chests_now", "sizes_now", "seals_now",
)


class Making(Case):
    def test_right_values(self):
        for hall in HALLS + DRAWN + (MANY,):
            one = Hall(hall[0], hall[1], *hall[2])
            self.is_same(one.hall_now, hall)
            self.is_same((one.chests_now, one.sizes_now, one.seals_now), hall)
            if not hall[2]:
                self.is_same(Hall(sizes=hall[1], chests=hall[0]).hall_now, hall)

    def test_wrong_chests(self):
        wrong = [value for value in ANY if not (type(value) is tuple and value in (("a",), ("a", "b")))]
        wrong += [("a", "a"), ("b", "a"), ("A",), ["a", "b"]]
        self.refuses_parameter(Hall, {"chests": ("a",), "sizes": (1,)}, "chests", wrong, "chests")
        self.refuses(NotUsable("chests", -1), Hall, ("b", "a"), (0,), None)

    def test_wrong_sizes(self):
        wrong = [value for value in ANY if value not in ((1,), (True,))]
        wrong += [(True,), (0,), (-1,), (1, 1), [1], ("1",), (None,), ((1,),)]
        self.refuses_parameter(Hall, {"chests": ("a",), "sizes": (1,)}, "sizes", wrong, "sizes")
        self.refuses(NotUsable("sizes", -1), Hall, ("a", "b"), (1, 0))
        self.refuses(NotUsable("sizes", -1), Hall, ("a", "b"), (1, 0), None)

    def test_wrong_seals(self):
        for value in NO_SEALS:
            self.refuses(NotUsable("seals", 0), Hall, PAIR[0], PAIR[1], value)
            self.refuses(NotUsable("seals", 3), Hall, PAIR[0], PAIR[1], *PAIR[2], value, None)
        self.refuses(NotUsable("seals", 0), Hall, PAIR[0], PAIR[1], PAIR[2])

    def test_of(self):
        for hall in HALLS + DRAWN:
            for one in (Hall.of(hall), Hall.of(hall=hall)):
                self.assertIs(type(one), Hall)
                self.is_same(one.hall_now, hall)
        for value in NO_HALLS:
            with self.assertRaises(InvalidPaper):
                Hall.of(value)
        self.refuses(InvalidPaper("shape", -1), Hall.of, list(PAIR))
        self.refuses(InvalidPaper("size", 1), Hall.of, (("a", "b"), (2, 0), ()))
        self.refuses(InvalidPaper("row", (0, 1)), Hall.of, (("a", "b"), (2, 2), ((("a", "b"), ((0, 0), (0, 2))),)))

    def test_read(self):
        for hall in HALLS + DRAWN:
            for one in (Hall.read(hall_text(hall)), Hall.read(text=hall_text(hall))):
                self.assertIs(type(one), Hall)
                self.is_same(one.hall_now, hall)
        self.refuses(InvalidText(0, 2), Hall.read, "chest a")
        self.refuses(InvalidText(2, 0), Hall.read, "chest a 2\nseal a\nchest b 2")
        for value in (None, 1, ("chest a 1",), ["chest a 1"]):
            self.refuses(NotUsable("text", -1), Hall.read, value)

    def test_each_method_is_defined_in_the_class(self):
        for name in METHODS:
            self.assertIn(name, vars(Hall))


class Asking(Case):
    def test_items(self):
        for hall in HALLS + DRAWN:
            one = Hall.of(hall)
            self.assertEqual([one[index] for index in range(len(hall[2]))], list(hall[2]))
            self.assertEqual(list(one), list(hall[2]))
            self.assertEqual([seal for seal in one], list(hall[2]))
            self.is_same(len(one), len(hall[2]))

    def test_wrong_items(self):
        one = Hall.of(PAIR)
        for value in [value for value in ANY if type(value) is not int] + [-1, -3, 3, 4, 10**59, ("a", "b")]:
            self.refuses(NotUsable("index", value), one.__getitem__, value)
            with self.assertRaises(NotUsable) as caught:
                one[value]
            self.assertIs(caught.exception.at, value)

    def test_called_with_a_chest(self):
        for hall in HALLS + DRAWN:
            for chest in hall[0]:
                self.is_same(Hall.of(hall)(chest), seals_of(hall, chest))
                self.is_same(Hall.of(hall)(chest=chest), seals_of(hall, chest))
        wrong = [value for value in ANY if value not in ("a", "b")]
        self.refuses_parameter(Hall.of(PAIR), {"chest": "a"}, "chest", wrong, "chest", VALUE)

    def test_in(self):
        for hall in HALLS:
            one = Hall.of(hall)
            for value in ANY + hall[0] + hall[2] + (hall, hall[0], hall[:1], one):
                self.assertIs(value in one, isinstance(value, str) and value in hall[0])

    def test_text(self):
        for hall in HALLS + DRAWN:
            self.is_same(str(Hall.of(hall)), hall_text(hall))

    def test_equal(self):
        for hall in HALLS:
            one = Hall.of(hall)
            for other in HALLS:
                self.assertIs(one == Hall.of(other), hall == other)
                self.assertIs(one != Hall.of(other), hall != other)
            for value in ANY + (hall, hall[0], None):
                self.assertIs(one == value, False)
                self.assertIs(one != value, True)
        self.assertIs(Hall.of(PAIR) == Hall.of(PAIR[:2] + (PAIR[2][::-1],)), False)
        self.assertIs(Hall(("a",), (1,)) == Hall(("b",), (1,)), False)
        self.assertIs(Hall(("a",), (1,)) == Hall(("a",), (2,)), False)

    def test_size_and_gates(self):
        for hall in HALLS + DRAWN:
            one = Hall.of(hall)
            self.is_same(one.gates(), gates_of(hall))
            for chest in hall[0]:
                self.is_same(one.size(chest), size_of(hall, chest))
                self.is_same(one.size(chest=chest), size_of(hall, chest))
        wrong = [value for value in ANY if value not in ("a", "b")]
        self.refuses_parameter(Hall.of(PAIR).size, {"chest": "a"}, "chest", wrong, "chest", VALUE)


class Changing(Case):
    def is_hall(self, one, hall):
        self.assertIs(type(one), Hall)
        self.is_same(one.hall_now, hall)
        self.is_same(one.seals_now, hall[2])

    def test_more(self):
        for seal in ((("a",), ()), (("a", "b"), ((0, 1),)), PAIR[2][0]):
            self.is_hall(Hall.of(PAIR) + seal, with_seal(PAIR, seal))
        for value in NO_SEALS:
            self.refuses(NotUsable("seal", -1), Hall.of(PAIR).__add__, value)
        with self.assertRaises(NotUsable):
            Hall.of(PAIR) + Hall.of(PAIR)

    def test_less(self):
        for hall in HALLS:
            for index in range(len(hall[2])):
                self.is_hall(Hall.of(hall) - index, without_seal(hall, index))
        for value in [value for value in ANY if type(value) is not int] + [-1, 3, 10**59]:
            self.refuses(NotUsable("index", value), Hall.of(PAIR).__sub__, value)
        self.refuses(NotUsable("index", 0), Hall.of(ALONE).__sub__, 0)

    def test_both(self):
        one = Hall(("b", "d"), (2, 3), (("b",), ((1,),)))
        far = Hall(("a", "b", "c"), (1, 2, 4), (("a", "b"), ()), (("b",), ((1,),)))
        seals = far.seals_now
        self.is_hall(one | far, (("a", "b", "c", "d"), (1, 2, 4, 3), one.seals_now + seals))
        self.is_hall(far | one, (("a", "b", "c", "d"), (1, 2, 4, 3), seals + one.seals_now))
        self.is_hall(far | far, (("a", "b", "c"), (1, 2, 4), seals + seals))
        self.is_hall(Hall.of(ALONE) | Hall(("z",), (9,)), (("a", "z"), (1, 9), ()))
        self.is_hall(Hall.of(ROW) | Hall.of(PAIR), ROW[:2] + (ROW[2] + PAIR[2],))

    def test_wrong_others(self):
        for value in ANY + (PAIR, [Hall.of(PAIR)]):
            self.refuses(NotUsable("other", -1), Hall.of(PAIR).__or__, value)
        for other in (Hall(("b",), (3,)), Hall(("a", "b"), (1, 2)), Hall.of(LINE), Hall.of(SPLIT), Hall(("b", "c"), (1, 2))):
            with self.assertRaises(NotUsable) as caught:
                Hall.of(PAIR) | other
            self.assertEqual((caught.exception.word, caught.exception.at), ("other", -1))

    def test_called(self):
        for hall in HALLS:
            self.is_hall(Hall.of(hall).called(), hall)
            self.is_hall(Hall.of(hall).called((hall[0][0], "zz")), renamed(hall, (hall[0][0], "zz")))
        one = Hall.of(PAIR)
        self.is_hall(one.called(("a", "b"), ("b", "a")), renamed(PAIR, ("a", "b"), ("b", "a")))
        self.refuses(NotUsable("pairs", 0), one.called, ("c", "d"))
        self.refuses(NotUsable("pairs", 1), one.called, ("a", "c"), ("a", "d"))
        self.refuses(NotUsable("pairs", -1), one.called, ("a", "b"))

    def test_a_hall_never_changes(self):
        for hall in HALLS:
            one = Hall.of(hall)
            list(one), len(one), str(one), one == one, one | one, one.gates(), one.called((hall[0][0], "zz"))
            one + ((hall[0][0],), ())
            for index in range(len(hall[2])):
                one - index
            for call in (lambda: one[99], lambda: one("zz"), lambda: one + 1, lambda: one - 99, lambda: one | 1):
                with self.assertRaises(NotUsable):
                    call()
            self.is_hall(one, hall)
            for name in ("hall_now", "chests_now", "sizes_now", "seals_now"):
                with self.assertRaises(AttributeError):
                    setattr(one, name, ())
            with self.assertRaises(TypeError):
                one[0] = ()
            self.is_hall(one, hall)


if __name__ == "__main__":
    unittest.main()
