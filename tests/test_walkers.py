"""[57], [62] and [63]: class Walker."""

import unittest

from keptopen.bags import tree_of_bags
from keptopen.errors import InvalidEvent, NotUsable, NothingToUndo
from keptopen.gluing import moves_by
from keptopen.walkers import Walker
from keptopen.webparts import web_of
from support import ALONE, ANY, DRAWN, FREE, GREAT, HALLS, LINE, LONG, NEVER, NO_HALLS, PAIR, ROW, SPLIT, SUMS, TIED, TIGHT
from support import VALUE, Case, Draw, drawn_bags, same, slow_counts, slow_next, slow_sound, slow_web, slow_wholes
from test_bybags import ENDS, LOOSE, NO_INDEXES, TWOS, trees

LOST = tuple([hall for hall in HALLS + (TIED,) + DRAWN + TIGHT[:30] if not slow_wholes(hall) and hall != LONG])
METHODS = (
    "__init__", "filling_now", "bag_now", "looks_now", "state", "wanted", "look", "undo", "__len__", "__iter__", "__contains__",
    "__eq__",
)
# The first bag is empty, and bags that lie in others are on the way.
EMPTY = (((), ("a", "b"), ("b",), ("b", "c"), (), ("c", "d")), ((0, 1), (1, 2), (2, 3), (3, 5), (4, 5)))


class Elsewhere(Walker):
    """A Walker of a class of its own."""


class Slow:
    """What [62] says of a Walker, from the words."""

    def __init__(self, hall, bags, first):
        self.hall, self.bags, self.first = hall, bags, first
        self.dead = {}

    def dead_ones(self, index):
        """The sound fillings of a bag, each with whether it is dead."""
        if index not in self.dead:
            self.dead[index] = {one: number == 0 for one, number in slow_counts(self.hall, self.bags, self.first, index)}
        return self.dead[index]

    def wanted(self, filling, bag):
        """The triple of the bag reached, what is shut, and the chest."""
        stays, shut = dict(filling), []
        while all(chest in stays for chest in self.bags[0][bag]):
            bag = min(other for other in slow_next(self.bags, self.first, bag) if self.all_dead(other, stays))
            shut += [chest for chest in stays if chest not in self.bags[0][bag]]
            stays = {chest: thing for chest, thing in stays.items() if chest in self.bags[0][bag]}
        return (bag, tuple(sorted(shut)), [chest for chest in self.bags[0][bag] if chest not in stays][0])

    def all_dead(self, other, stays):
        """Whether all sound fillings of a bag that hold the same are dead."""
        ones = self.dead_ones(other)
        return all(ones[one] for one in ones if all(stays.get(chest, thing) == thing for chest, thing in one))


class WalkerCase(Case):
    def shows(self, hall, walker, filling, bag, looks):
        """The Walker shows just this of itself."""
        self.is_same(walker.filling_now, filling)
        self.is_same(walker.bag_now, bag)
        self.is_same(walker.looks_now, looks)
        self.is_same(list(walker), list(looks))
        self.is_same(len(walker), len(looks))
        self.is_same(walker.state(), "going" if slow_sound(hall, filling) else "caught")

    def follow(self, walker, slow, size, most):
        """Lets a Walker meet a keeper who says all things in turn; the most looks of all ways."""
        filling, bag, looks = walker.filling_now, walker.bag_now, walker.looks_now
        if walker.state() == "caught":
            self.is_same(walker.wanted(), None)
            self.refuses(InvalidEvent(("look", 0), "caught"), walker.look, 0)
            self.shows(slow.hall, walker, filling, bag, looks)
            return len(looks)
        reached, shut, chest = slow.wanted(filling, bag)
        self.is_same(walker.wanted(), (shut, chest))
        self.assertEqual((walker.filling_now, walker.bag_now), (filling, bag))
        self.assertNotIn(chest, [name for name, _ in looks])
        self.assertTrue(set(shut) <= set(dict(filling)))
        found = []
        for thing in range(slow.hall[1][slow.hall[0].index(chest)]):
            stays = tuple([pair for pair in filling if pair[0] not in shut])
            longer = tuple(sorted(stays + ((chest, thing),)))
            state = "going" if slow_sound(slow.hall, longer) else "caught"
            self.is_same(walker.look(thing) if thing else walker.look(thing=thing), state)
            self.shows(slow.hall, walker, longer, reached, looks + ((chest, thing),))
            self.assertLessEqual(len(longer), size)
            self.assertLessEqual(len(looks) + 1, most)
            found.append(self.follow(walker, slow, size, most))
            self.is_same(walker.undo(), (chest, thing))
            self.shows(slow.hall, walker, filling, bag, looks)
        return max(found)


class Walking(WalkerCase):
    def walk(self, hall, bags, first, made=Walker):
        """Lets a Walker meet all keepers."""
        walker = made(hall, bags, first)
        self.shows(hall, walker, (), first, ())
        size = max(len(lot) for lot in bags[0])
        told = self.follow(walker, Slow(hall, bags, first), size, moves_by(hall, bags, first))
        self.assertIs(walker == made(hall, bags, first), True)
        return told

    def test_all_keepers_of_small_halls(self):
        many = 0
        for hall in LOST:
            for bags in trees(hall, 2):
                for first in range(len(bags[0])):
                    many += self.walk(hall, bags, first)
        self.assertGreater(many, 1000)

    def test_halls_of_six_chests(self):
        for hall in (LONG, SUMS):
            for seed in range(3):
                bags = drawn_bags(slow_web(hall), seed)
                for first in range(0, len(bags[0]), 2):
                    self.walk(hall, bags, first)

    def test_empty_bags_and_bags_within_others(self):
        for first in range(len(EMPTY[0])):
            self.walk(ENDS, EMPTY, first)
        walker = Walker(ENDS, EMPTY, 0)
        self.is_same([walker.bag_now, walker.wanted(), walker.bag_now], [0, ((), "a"), 0])
        self.is_same([walker.look(0), walker.bag_now, walker.wanted()], ["going", 1, ((), "b")])
        self.is_same([walker.look(0), walker.wanted(), walker.bag_now], ["going", (("a",), "c"), 1])
        # From the bag of a and b over that of b alone, and the empty one that is no way on is left aside.
        self.is_same([walker.look(0), walker.bag_now, walker.filling_now], ["going", 3, (("b", 0), ("c", 0))])
        self.is_same([walker.wanted(), walker.look(1), walker.bag_now], [(("b",), "d"), "caught", 5])
        self.is_same([walker.undo(), walker.bag_now, walker.undo(), walker.bag_now], [("d", 1), 3, ("c", 0), 1])
        self.is_same([walker.undo(), walker.undo(), walker.bag_now, walker.filling_now], [("b", 0), ("a", 0), 0, ()])

    def test_all_shut_on_the_way(self):
        # Over an empty bag everything is shut, and shut is told in order.
        hall = (tuple("abcd"), (1, 1, 1, 1), ((("a", "b"), ((0, 0),)), (("c", "d"), ())))
        bags = ((("a", "b"), (), (), ("c", "d")), ((0, 1), (1, 2), (2, 3)))
        walker = Walker(hall, bags, 0)
        self.is_same([walker.look(0), walker.look(0), walker.wanted()], ["going", "going", (("a", "b"), "c")])
        self.is_same([walker.look(0), walker.filling_now, walker.bag_now], ["going", (("c", 0),), 3])
        self.is_same([walker.wanted(), walker.look(0)], [((), "d"), "caught"])
        self.is_same([walker.undo(), walker.undo(), walker.filling_now], [("d", 0), ("c", 0), (("a", 0), ("b", 0))])

    def test_the_least_next_bag(self):
        hall = (tuple("abc"), (1, 1, 1), ((("b",), ()), (("c",), ())))
        bags = ((("b",), ("a",), ("c",)), ((0, 1), (1, 2)))
        self.is_same(Walker(hall, bags, 1).wanted(), ((), "a"))
        walker = Walker(hall, bags, 1)
        self.is_same([walker.look(0), walker.wanted(), walker.look(0), walker.bag_now], ["going", (("a",), "b"), "caught", 0])
        swapped = ((("c",), ("a",), ("b",)), ((0, 1), (1, 2)))
        walker = Walker(hall, swapped, 1)
        self.is_same([walker.look(0), walker.wanted()], ["going", (("a",), "c")])

    def test_a_derived_class(self):
        for hall in (PAIR, SPLIT, NEVER, TIED):
            self.walk(hall, tree_of_bags(web_of(hall)), 0, Elsewhere)

    def test_great_halls(self):
        for hall in GREAT:
            if not slow_wholes(hall):
                bags = tree_of_bags(web_of(hall))
                for first in range(len(bags[0])):
                    walker, draw = Walker(hall, bags, first), Draw(first)
                    while walker.state() == "going":
                        walker.look(draw.below(4))
                    self.assertLessEqual(len(walker), moves_by(hall, bags, first))

    def test_bags_with_very_many_fillings(self):
        bag, hall = tuple("abcde"), (tuple("abcdef"), (4,) * 6, ((("f",), ()),))
        bags = ((bag,) * 20 + (("f",),), tuple([(k, k + 1) for k in range(20)]))
        walker = Walker(hall, bags, 0)
        self.is_same([walker.look(k % 4) for k in range(5)], ["going"] * 5)
        self.is_same(walker.wanted(), (bag, "f"))
        self.is_same([walker.look(3), walker.bag_now, walker.filling_now], ["caught", 20, (("f", 3),)])

    def test_very_many_bags(self):
        hall = (("a",), (2,), ((("a",), ()),))
        bags = (((),) * 600 + (("a",),), tuple([(k, k + 1) for k in range(600)]))
        walker = Walker(hall, bags, 0)
        self.is_same([walker.wanted(), walker.look(1), walker.bag_now], [((), "a"), "caught", 600])


class Refusing(WalkerCase):
    def test_things(self):
        walker = Walker(ENDS, TWOS, 1)
        for value in [value for value in ANY if not (type(value) is int and value in (0, 1))] + [2, -1, "b", ("b", 0), 10**59]:
            self.refuses(NotUsable("thing", value), walker.look, value)
            self.refuses(NotUsable("thing", value), walker.look, thing=value)
            self.is_same((walker.looks_now, walker.filling_now, walker.bag_now, walker.wanted()), ((), (), 1, ((), "b")))
        with self.assertRaises(NotUsable) as caught:
            walker.look(ANY[-1])
        self.assertIs(caught.exception.at, ANY[-1])

    def test_caught_ahead_of_things(self):
        walker = Walker(PAIR, ((("a", "b"),), ()), 0)
        self.is_same([walker.look(1), walker.state()], ["caught", "caught"])
        for value in ANY:
            self.refuses(InvalidEvent(("look", value), "caught"), walker.look, value)
        self.is_same((walker.looks_now, walker.wanted()), ((("a", 1),), None))

    def test_nothing_to_undo(self):
        walker = Walker(ENDS, TWOS, 0)
        self.refuses(NothingToUndo(0), walker.undo)
        self.is_same([walker.look(0), walker.undo()], ["going", ("a", 0)])
        self.refuses(NothingToUndo(0), walker.undo)
        self.is_same((walker.filling_now, walker.bag_now, walker.wanted()), ((), 0, ((), "a")))

    def test_wrong_parameters(self):
        good = {"hall": ENDS, "bags": TWOS, "first": 0}
        for made in (Walker, Elsewhere):
            self.refuses_parameter(made, good, "hall", NO_HALLS, "hall")
            wrong = ANY + (list(TWOS), TWOS[:1], (TWOS[0], ()), (TWOS[0][:2], ((0, 1),)), ((LINE[0],), ()), ((ROW[0],), ()))
            self.refuses_parameter(made, good, "bags", wrong, "bags")
            self.refuses_parameter(made, good, "first", NO_INDEXES, "first", VALUE)

    def test_halls_that_can_be_kept_come_last(self):
        for hall in HALLS + DRAWN + TIGHT:
            if slow_wholes(hall):
                self.refuses(NotUsable("hall", -1), Walker, hall, ((hall[0],), ()), 0)
                self.refuses(NotUsable("hall", -1), Walker, first=0, bags=((hall[0],), ()), hall=hall)
                self.refuses(NotUsable("first", 1), Walker, hall, ((hall[0],), ()), 1)
                self.refuses(NotUsable("bags", -1), Walker, hall, (), 1)
        for first in range(3):
            self.refuses(NotUsable("hall", -1), Walker, LOOSE, TWOS, first)
        self.refuses(NotUsable("hall", -1), Walker, FREE, ((("b",), ("c",), (), ("a",)), ((0, 2), (1, 2), (2, 3))), 2)
        self.refuses(NotUsable("hall", -1), Walker, ALONE, ((("a",),), ()), 0)


class Operators(WalkerCase):
    def test_in(self):
        walker = Walker(ENDS, TWOS, 1)
        walker.look(1)
        for value in ANY + (("b", 1), ("b", True), ("b", 0), ["b", 1], (("b", 1),), ("c", 1), "b", 1, walker):
            self.assertIs(value in walker, same(value, ("b", 1)))
        walker.look(1)
        # What was seen stays, though it is shut.
        walker.look(0)
        self.is_same(walker.filling_now, (("a", 0), ("b", 1)))
        self.assertIs(("c", 1) in walker, True)
        walker.undo()
        self.assertIs(("a", 0) in walker, False)
        one = Walker(ENDS, TWOS, 0)
        one.look(0)
        self.assertEqual([(("a", 0) in one), (("a", False) in one), (("a", 1) in one)], [True, False, False])

    def test_equal(self):
        made = (
            (ENDS, TWOS, 0), (ENDS, TWOS, 1), (ENDS, ((tuple("abcd"),), ()), 0), (PAIR, ((("a", "b"),), ()), 0),
            (ENDS, EMPTY, 0), (SPLIT, ((("a", "b"),), ()), 0),
        )
        for one in made:
            for other in made:
                for kinds in ((Walker, Walker), (Walker, Elsewhere), (Elsewhere, Walker)):
                    self.assertIs(kinds[0](*one) == kinds[1](*other), one == other)
                    self.assertIs(kinds[0](*one) != kinds[1](*other), one != other)
            for value in ANY + (one, ()):
                self.assertIs(Walker(*one) == value, False)

    def test_equal_looks(self):
        one, other = Walker(ENDS, TWOS, 1), Elsewhere(ENDS, TWOS, 1)
        one.look(0)
        self.assertIs(one == other, False)
        other.look(1)
        self.assertIs(one == other, False)
        other.undo()
        self.assertIs(one == other, False)
        other.look(0)
        self.assertIs(one == other and other == one, True)
        other.look(0)
        self.assertIs(one == other, False)

    def test_each_method_is_defined_in_the_class(self):
        for name in METHODS:
            self.assertIn(name, vars(Walker))

    def test_properties_are_not_set(self):
        walker = Walker(ENDS, TWOS, 1)
        for name in ("filling_now", "bag_now", "looks_now"):
            with self.assertRaises(AttributeError):
                setattr(walker, name, None)

    def test_each_one_goes_by_its_own_looks(self):
        one, other = Walker(ENDS, TWOS, 0), Walker(ENDS, TWOS, 0)
        kept = one.looks_now
        list(one).append(("a", 0))
        one.look(0)
        self.is_same((kept, other.looks_now, one.looks_now), ((), (), (("a", 0),)))


if __name__ == "__main__":
    unittest.main()
