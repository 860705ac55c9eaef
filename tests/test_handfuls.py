"""[27] and [28]: classes Handful and Shut."""

import inspect
import unittest

from keptopen.errors import NotUsable
from keptopen.fillings import broken_by, fitting
from keptopen.handfuls import Handful, Shut
from keptopen.wholes import whole_fillings
from support import ANY, DRAWN, HALLS, LINE, NO_HALLS, ODD, PAIR, ROW, SPLIT, VALUE, Case
from support import slow_breaks, slow_fillings, slow_wholes
from test_fillings import NO_FILLINGS

FEW = (PAIR, LINE, ROW, ODD, SPLIT) + DRAWN[:25]
METHODS = (
    "__init__", "__getitem__", "__call__", "__contains__", "__len__", "__iter__", "__eq__", "__add__", "__and__", "__sub__",
    "given", "without", "cut_to", "ways", "of", "hall_now", "filling_now", "chests_now", "lacking_now", "broken_now",
)


class HandfulCase(Case):
    def is_handful(self, one, hall, filling):
        self.assertIs(type(one), Handful)
        self.is_same((one.hall_now, one.filling_now), (hall, filling))


class Making(HandfulCase):
    def test_right_values(self):
        for hall in FEW:
            for filling in slow_fillings(hall):
                self.is_handful(Handful(hall, filling), hall, filling)
                self.is_handful(Handful(filling=filling, hall=hall), hall, filling)

    def test_wrong_values(self):
        good = {"hall": PAIR, "filling": ()}
        self.refuses_parameter(Handful, good, "hall", NO_HALLS, "hall")
        self.refuses_parameter(Handful, good, "filling", NO_FILLINGS, "filling")
        self.refuses_parameter(Shut, {"hall": PAIR}, "hall", NO_HALLS, "hall")

    def test_shut(self):
        self.assertEqual(Shut.__bases__, (Handful,))
        for hall in HALLS:
            for one in (Shut(hall), Shut(hall=hall)):
                self.assertIs(type(one), Shut)
                self.is_same((one.hall_now, one.filling_now, len(one)), (hall, (), 0))
                self.is_same((one.chests_now, one.lacking_now, one.broken_now), ((), hall[0], ()))

    def test_of(self):
        self.is_handful(Handful.of(ROW), ROW, ())
        self.is_handful(Handful.of(hall=ROW), ROW, ())
        self.is_handful(Handful.of(ROW, ("c", 2), ("a", 1), ("b", 0)), ROW, (("a", 1), ("b", 0), ("c", 2)))
        for hall in FEW:
            for filling in slow_fillings(hall):
                self.is_handful(Handful.of(hall, *reversed(filling)), hall, filling)

    def test_of_wrong_values(self):
        for value in NO_HALLS:
            self.refuses(NotUsable("hall", -1), Handful.of, value, None)
        wrong = [value for value in ANY if value not in (("a", 0), ("a", 1), ("b", 0), ("b", 1))]
        for pair in wrong + [("c", 0), ("a", 2), ("a", -1), ("a", True), ("a", None), ["a", 0], ("a", 0, 0), (["a"], 0), ("A", 0)]:
            self.refuses(NotUsable("pairs", 0), Handful.of, PAIR, pair)
            self.refuses(NotUsable("pairs", 1), Handful.of, PAIR, ("b", 0), pair, None)
        self.refuses(NotUsable("pairs", 1), Handful.of, PAIR, ("b", 0), ("b", 1))
        self.refuses(NotUsable("pairs", 1), Handful.of, PAIR, ("b", 0), ("b", 0), None)
        self.refuses(NotUsable("pairs", 2), Handful.of, ROW, ("c", 0), ("a", 0), ("c", 0))

    def test_each_method_is_defined_in_the_class(self):
        for name in METHODS:
            self.assertIn(name, vars(Handful))
        self.assertIn("__init__", vars(Shut))


class Asking(HandfulCase):
    def test_properties(self):
        for hall in FEW:
            for filling in slow_fillings(hall):
                one = Handful(hall, filling)
                self.is_same(one.chests_now, tuple([chest for chest in hall[0] if chest in dict(filling)]))
                self.is_same(one.lacking_now, tuple([chest for chest in hall[0] if chest not in dict(filling)]))
                broken = tuple([k for k in range(len(hall[2])) if slow_breaks(hall, filling, k)])
                self.is_same(one.broken_now, broken)
                self.is_same(broken_by(hall, filling), broken)

    def test_items(self):
        for filling in slow_fillings(ROW):
            one = Handful(ROW, filling)
            self.is_same(len(one), len(filling))
            self.is_same(list(one), list(filling))
            for chest, thing in filling:
                self.is_same(one[chest], thing)
        one = Handful(ROW, (("b", 1),))
        for value in [value for value in ANY if value != "b"] + ["c", "d", 0]:
            self.refuses(NotUsable("chest", value), one.__getitem__, value)

    def test_called_with_a_chest(self):
        for filling in slow_fillings(ROW):
            one = Handful(ROW, filling)
            for chest in one.lacking_now:
                self.is_same(one(chest), fitting(ROW, filling, chest))
                self.is_same(one(chest=chest), fitting(ROW, filling, chest))
            for chest in one.chests_now:
                self.refuses(NotUsable("chest", chest), one, chest)
        no_chests = [value for value in ANY if value not in ("a", "b")]
        self.refuses_parameter(Handful(PAIR, ()), {"chest": "a"}, "chest", no_chests, "chest", VALUE)

    def test_in(self):
        fillings = slow_fillings(ROW)
        for filling in fillings:
            one = Handful(ROW, filling)
            for other in fillings:
                self.assertIs(other in one, set(other) <= set(filling))
            for value in ANY:
                part = type(value) is tuple and value in ((), (("a", 0),)) and set(value) <= set(filling)
                self.assertIs(value in one, part)
        one = Handful(ROW, (("a", 1), ("c", 2)))
        for value in ((("a", True),), (("c", 2), ("a", 1)), (("a", 1), ("a", 1)), ["a"], "a", ("a", 1), [("a", 1)], one):
            self.assertIs(value in one, False)

    def test_equal(self):
        fillings = slow_fillings(PAIR)
        for filling in fillings:
            one = Handful(PAIR, filling)
            for other in fillings:
                self.assertIs(one == Handful(PAIR, other), filling == other)
                self.assertIs(one != Handful(PAIR, other), filling != other)
            self.assertIs(one == Handful(PAIR[:2] + ((),), filling), False)
            self.assertIs(one == Shut(PAIR), filling == ())
            self.assertIs(Shut(PAIR) == one, filling == ())
            for value in ANY + (PAIR, filling):
                self.assertIs(one == value, False)
        self.assertIs(Shut(PAIR) == Shut(PAIR), True)
        self.assertIs(Shut(PAIR) == Shut(ROW), False)

    def test_ways(self):
        for hall in FEW:
            for filling in slow_fillings(hall):
                one = Handful(hall, filling)
                ways = one.ways()
                self.assertTrue(inspect.isgenerator(ways))
                self.is_same(list(ways), [whole for whole in slow_wholes(hall) if set(filling) <= set(whole)])
                self.is_same(next(one.ways(), None), next(iter(list(one.ways())), None))
            self.is_same(tuple(Shut(hall).ways()), slow_wholes(hall))


class Changing(HandfulCase):
    def both(self, hall):
        fillings = slow_fillings(hall)
        return [(one, other) for one in fillings for other in fillings]

    def test_operators(self):
        for hall in (PAIR, LINE, SPLIT):
            for one, other in self.both(hall):
                mine, theirs = Handful(hall, one), Handful(hall, other)
                if any(dict(one).get(chest, thing) != thing for chest, thing in other):
                    self.refuses(NotUsable("other", -1), mine.__add__, theirs)
                else:
                    self.is_handful(mine + theirs, hall, tuple(sorted(set(one) | set(other))))
                self.is_handful(mine & theirs, hall, tuple(sorted(set(one) & set(other))))
                self.is_handful(mine - theirs, hall, tuple([pair for pair in one if pair[0] not in dict(other)]))

    def test_operators_of_a_derived_class(self):
        one = Handful(ROW, (("a", 0),))
        self.is_handful(Shut(ROW) + one, ROW, (("a", 0),))
        self.is_handful(one + Shut(ROW), ROW, (("a", 0),))
        self.is_handful(Shut(ROW) & Shut(ROW), ROW, ())
        self.is_handful(one - Shut(ROW), ROW, (("a", 0),))
        self.is_handful(Shut(ROW) - one, ROW, ())
        self.is_handful(Shut(ROW) + Shut(ROW), ROW, ())

    def test_wrong_others(self):
        one = Handful(ROW, (("a", 0),))
        for call in (one.__add__, one.__and__, one.__sub__):
            for value in ANY + (ROW, (("a", 0),), [one]):
                self.refuses(NotUsable("other", -1), call, value)
            self.refuses(NotUsable("other", -1), call, Handful(PAIR, (("a", 0),)))
            self.refuses(NotUsable("other", -1), call, Shut(ROW[:2] + (ROW[2][::-1],)))

    def test_given(self):
        for hall in (PAIR, LINE, ROW):
            for filling in slow_fillings(hall):
                for one in (Handful(hall, filling), Shut(hall)):
                    for chest, size in zip(hall[0], hall[1]):
                        for thing in range(size):
                            expected = tuple(sorted({**dict(one.filling_now), chest: thing}.items()))
                            self.is_handful(one.given(chest, thing), hall, expected)
                            self.is_handful(one.given(thing=thing, chest=chest), hall, expected)
                            self.is_same(one.given(chest, thing)[chest], thing)

    def test_given_wrong_values(self):
        good = {"chest": "a", "thing": 0}
        for one in (Handful(PAIR, (("a", 0),)), Shut(PAIR)):
            no_chests = [value for value in ANY if value not in ("a", "b")]
            self.refuses_parameter(one.given, good, "chest", no_chests, "chest", VALUE)
            no_things = [value for value in ANY if not (type(value) is int and value in (0, 1))]
            self.refuses_parameter(one.given, good, "thing", no_things, "thing", VALUE)
        self.is_handful(Shut(ROW).given("c", 2), ROW, (("c", 2),))
        self.refuses(NotUsable("thing", 2), Shut(ROW).given, "b", 2)

    def test_without(self):
        for filling in slow_fillings(ROW):
            one = Handful(ROW, filling)
            for chest in one.chests_now:
                self.is_handful(one.without(chest), ROW, tuple([pair for pair in filling if pair[0] != chest]))
                self.is_handful(one.without(chest=chest), ROW, tuple([pair for pair in filling if pair[0] != chest]))
            for chest in one.lacking_now + ("d", "A"):
                self.refuses(NotUsable("chest", chest), one.without, chest)
        no_chests = [value for value in ANY if value != "b"]
        self.refuses_parameter(Handful(ROW, (("b", 0),)).without, {"chest": "b"}, "chest", no_chests, "chest", VALUE)

    def test_cut_to(self):
        for filling in slow_fillings(ROW):
            one = Handful(ROW, filling)
            for lot in ((), ("a",), ("b",), ("c",), ("a", "b"), ("a", "c"), ("b", "c"), ("a", "b", "c")):
                self.is_handful(one.cut_to(lot), ROW, tuple([pair for pair in filling if pair[0] in lot]))
                self.is_handful(one.cut_to(lot=lot), ROW, tuple([pair for pair in filling if pair[0] in lot]))
        right = ((), ("a",), ("a", "b"))
        wrong = [value for value in ANY if not (type(value) is tuple and value in right)]
        wrong += [("a", "d"), ("d",), ("b", "a"), ("a", "a"), ["a"], "a", ("a", 1)]
        self.refuses_parameter(Handful(ROW, ()).cut_to, {"lot": ()}, "lot", wrong, "lot")

    def test_a_handful_never_changes(self):
        for one in (Handful(ROW, (("a", 0), ("c", 2))), Shut(ROW)):
            filling = one.filling_now
            other = Handful(ROW, (("b", 1), ("c", 2)))
            one + other, one & other, one - other, one.given("b", 0), one.given("a", 1), one.cut_to(()), list(one.ways())
            list(one), len(one), one == other, one("b"), (("a", 0),) in one
            for chest in one.chests_now:
                one.without(chest)
            for call in (lambda: one["b"], lambda: one + 1, lambda: one.given("a", 7), lambda: one.without("b"), lambda: one.cut_to(1)):
                with self.assertRaises(NotUsable):
                    call()
            for name in ("hall_now", "filling_now", "chests_now", "lacking_now", "broken_now"):
                with self.assertRaises(AttributeError):
                    setattr(one, name, ())
            with self.assertRaises(TypeError):
                one["a"] = 1
            self.is_same((one.hall_now, one.filling_now, other.filling_now), (ROW, filling, (("b", 1), ("c", 2))))


class Consequences(HandfulCase):
    def test_sums_and_differences(self):
        for hall in (PAIR, LINE, SPLIT):
            handfuls = [Handful(hall, filling) for filling in slow_fillings(hall)]
            for one in handfuls:
                self.assertEqual(one.cut_to(one.chests_now), one)
                for other in handfuls:
                    both = one & other
                    self.assertTrue(both.filling_now in one and both.filling_now in other)
                    alike = all(dict(one).get(chest, thing) == thing for chest, thing in other)
                    self.assertIs(one - other + both == one, alike)
                    if alike:
                        self.assertTrue(one.filling_now in one + other and other.filling_now in one + other)
                        self.assertEqual(len(one + other), len(one) + len(other) - len(both))

    def test_ways(self):
        for hall in FEW:
            self.assertEqual(tuple(Shut(hall).ways()), whole_fillings(hall))
            for filling in slow_fillings(hall):
                one = Handful(hall, filling)
                self.assertTrue(not one.broken_now or list(one.ways()) == [])
        self.assertEqual((Handful(ROW, (("a", 0), ("c", 2))).broken_now, list(Handful(ROW, (("a", 0), ("c", 2))).ways())), ((), []))


if __name__ == "__main__":
    unittest.main()
