"""[57], [61] and [63]: kept_by, moves_by."""

import itertools
import unittest

from keptopen.bags import tree_of_bags
from keptopen.errors import NotUsable
from keptopen.families import family, is_family
from keptopen.familyparts import cut_family, whole_family
from keptopen.gluing import kept_by, moves_by
from keptopen.plays import moves
from keptopen.webparts import web_of
from support import ALONE, ANY, DRAWN, FREE, GREAT, HALF, HALLS, LINE, LONG, NEVER, NO_HALLS, PAIR, ROW, SPLIT, SUMS, THREES
from support import TIED, TIGHT, VALUE, Case, Draw, drawn_bags, slow_beyond, slow_family, slow_fillings, slow_sound, slow_web
from support import slow_wholes
from test_bybags import ENDS, LOOSE, NO_INDEXES, TWOS, trees

FEW = tuple([hall for hall in HALLS if hall != LONG]) + (TIED, THREES) + DRAWN[:50] + TIGHT[:15]
KEPT = tuple([hall for hall in FEW if slow_wholes(hall)])
LOST = tuple([hall for hall in FEW if not slow_wholes(hall)])


def size_of(bags):
    """The size of a tree of bags."""
    return max(len(lot) for lot in bags[0])


def slow_moves_by(bags, first):
    """The greatest number of chests that the bags on one way have together, straight from [61]."""
    found = []
    for end in range(len(bags[0])):
        way = [index for index in range(len(bags[0])) if end in slow_beyond(bags, first, index)]
        found.append(len({chest for index in way for chest in bags[0][index]}))
    return max(found)


class KeptBy(Case):
    def is_glued(self, hall, bags, fillings):
        """What kept_by tells is a whole sound filling whose parts in all bags are among the fillings."""
        told = kept_by(hall, bags, fillings)
        self.assertIn(told, slow_wholes(hall))
        self.is_same(told, slow_wholes(hall)[slow_wholes(hall).index(told)])
        for lot in bags[0]:
            self.assertIn(tuple([pair for pair in told if pair[0] in lot]), fillings)

    def test_the_greatest_family_for_each_m_from_the_size_on(self):
        for hall in KEPT:
            for bags in trees(hall, 2):
                for m in range(size_of(bags), len(hall[0]) + 1):
                    self.is_glued(hall, bags, slow_family(hall, m))
                self.is_glued(hall, bags, family(hall, len(hall[0]) + 2))
                self.assertEqual(kept_by(family=family(hall, 9), bags=bags, hall=hall), kept_by(hall, bags, family(hall, 9)))

    def test_parts_of_whole_fillings(self):
        for seed, hall in enumerate(KEPT):
            draw, wholes = Draw(seed), slow_wholes(hall)
            for bags in trees(hall, 1):
                for m in range(size_of(bags), len(hall[0]) + 1):
                    one, other = [whole_family(hall, m, wholes[draw.below(len(wholes))]) for _ in range(2)]
                    self.is_glued(hall, bags, one)
                    self.assertEqual(kept_by(hall, ((hall[0],), ()), whole_family(hall, 9, wholes[-1])), wholes[-1])
                    self.is_glued(hall, bags, tuple(sorted(set(one) | set(other))))

    def test_one_whole_filling_alone(self):
        for hall in KEPT:
            for whole in slow_wholes(hall)[:3]:
                for bags in trees(hall, 1):
                    for m in range(size_of(bags), len(hall[0]) + 2):
                        self.is_same(kept_by(hall, bags, whole_family(hall, m, whole)), whole)

    def test_families_for_lesser_m_alone(self):
        many = 0
        for hall in FEW:
            for bags in trees(hall, 2):
                for m in range(1, size_of(bags)):
                    told = slow_family(hall, m)
                    if told is not None:
                        self.assertTrue(is_family(hall, m, told))
                        self.refuses(NotUsable("family", -1), kept_by, hall, bags, told)
                        many += 1
                    if told is not None and slow_wholes(hall):
                        told = cut_family(hall, size_of(bags), slow_family(hall, size_of(bags)), m)
                        self.refuses(NotUsable("family", -1), kept_by, hall, bags, told)
        self.assertGreater(many, 100)

    def test_a_filling_left_out_or_one_more(self):
        kinds = set()
        for hall in KEPT:
            bags = tree_of_bags(slow_web(hall))
            for m in {size_of(bags), len(hall[0])}:
                for told in (slow_family(hall, m), whole_family(hall, m, slow_wholes(hall)[0])):
                    near = [one for one in slow_fillings(hall) if one not in told][:4]
                    others = [tuple([one for one in told if one != gone]) for gone in told]
                    for other in others + [tuple(sorted(told + (one,))) for one in near]:
                        right = any(is_family(hall, n, other) for n in range(size_of(bags), len(hall[0]) + 1))
                        kinds.add(right)
                        if right:
                            self.is_glued(hall, bags, other)
                        else:
                            self.refuses(NotUsable("family", -1), kept_by, hall, bags, other)
        self.assertEqual(kinds, {True, False})

    def test_values_of_other_kinds(self):
        told = family(LOOSE, 2)
        wrong = ANY + (
            list(told), told[::-1], told + told[-1:], told[1:], (list(told[0]),) + told[1:], ((),), ("a",), (None,), told[0],
            tuple([list(one) for one in told]), tuple([tuple([list(pair) for pair in one]) for one in told]),
            tuple([tuple([(chest, bool(thing)) for chest, thing in one]) for one in told]), ("kept", told),
            told[:-1] + ((("c", 0), ("d", 1)),), told + ((("c", 0), ("d", 2)),), told + ((("e", 0),),), told + (7,), told + (None,),
        )
        good = {"hall": LOOSE, "bags": TWOS, "family": told}
        self.assertEqual(kept_by(**good), tuple([(chest, 0) for chest in "abcd"]))
        self.refuses_parameter(kept_by, good, "family", wrong, "family")

    def test_edges(self):
        one = ((("a",),), ())
        self.is_same(kept_by(ALONE, one, ((), (("a", 0),))), (("a", 0),))
        self.refuses(NotUsable("family", -1), kept_by, ALONE, one, ((),))
        self.refuses(NotUsable("family", -1), kept_by, NEVER, one, ((),))
        self.refuses(NotUsable("family", -1), kept_by, ENDS, TWOS, family(ENDS, 1))
        apart = ((("b",), ("c",), (), ("a",)), ((0, 2), (1, 2), (2, 3)))
        self.is_glued(FREE, apart, family(FREE, 1))
        self.is_glued(HALF, ((("a", "b"), ("b", "c"), ()), ((0, 1), (0, 2))), family(HALF, 2))
        # The things that the family has, and not only what the hall lets stand.
        last = whole_family(ROW, 2, (("a", 1), ("b", 1), ("c", 2)))
        self.is_same(kept_by(ROW, ((("a", "b"), ("b", "c")), ((0, 1),)), last), (("a", 1), ("b", 1), ("c", 2)))

    def test_wrong_halls_and_bags(self):
        good = {"hall": LOOSE, "bags": TWOS, "family": family(LOOSE, 2)}
        self.refuses_parameter(kept_by, good, "hall", NO_HALLS, "hall")
        wrong = ANY + (list(TWOS), TWOS[:1], (TWOS[0], ()), (TWOS[0][:2], ((0, 1),)), ((LINE[0],), ()), ((ROW[0],), ()))
        self.refuses_parameter(kept_by, good, "bags", wrong, "bags")

    def test_great_halls(self):
        hall = (tuple("abcdef"), (4,) * 6, tuple([(two, tuple((k, k) for k in range(4))) for two in zip("abcde", "bcdef")]))
        bags = tree_of_bags(web_of(hall))
        for m in (2, 3):
            self.is_glued(hall, bags, family(hall, m))
        free = (tuple("abcdef"), (4,) * 6, ())
        bags = ((tuple("abc"), tuple("cde"), tuple("def")), ((0, 1), (1, 2)))
        self.is_same(kept_by(free, bags, family(free, 3)), tuple([(chest, 0) for chest in "abcdef"]))
        self.is_same(moves_by(free, bags, 0), 6)
        many = 0
        for hall in GREAT:
            bags = tree_of_bags(web_of(hall))
            if slow_wholes(hall) and size_of(bags) <= 3:
                self.is_glued(hall, bags, family(hall, 3))
            if slow_wholes(hall):
                self.is_glued(hall, bags, whole_family(hall, 6, slow_wholes(hall)[0]))
                many += 1
        self.assertGreater(many, 0)

    def test_very_many_bags(self):
        bags = ((("a",),) + ((),) * 600, tuple([(k, k + 1) for k in range(600)]))
        self.is_same(kept_by(ALONE, bags, family(ALONE, 1)), (("a", 0),))
        self.is_same((moves_by(ALONE, bags, 300), moves_by(ALONE, (bags[0][:1], ()), 0)), (1, 1))


class MovesBy(Case):
    def test_each_first_bag(self):
        for hall in FEW + (LONG, SUMS):
            for bags in trees(hall, 3):
                for first in range(len(bags[0])):
                    self.is_same(moves_by(hall, bags, first), slow_moves_by(bags, first))
                self.is_same(moves_by(first=0, bags=bags, hall=hall), slow_moves_by(bags, 0))

    def test_edges(self):
        self.is_same([moves_by(ENDS, TWOS, first) for first in range(3)], [4, 3, 4])
        self.is_same(moves_by(LOOSE, ((tuple("abcd"),), ()), 0), 4)
        # Bags without chests, equal ones, and ones that lie in others.
        nothing = (((), ("a", "b"), ("b",), ("b",), ("c",), ()), ((0, 1), (0, 4), (1, 2), (2, 3), (4, 5)))
        hall = (tuple("abc"), (2, 2, 2), ((("a", "b"), ((0, 0),)),))
        self.is_same([moves_by(hall, nothing, first) for first in range(6)], [2, 3, 3, 3, 3, 3])
        star = ((("b",), ("a", "b"), ("b", "c"), ("b", "d")), ((0, 1), (0, 2), (0, 3)))
        hall = (tuple("abcd"), (1, 1, 1, 1), (("a", "b"), ("b", "c"), ("b", "d")))
        hall = hall[:2] + (tuple([(gate, ()) for gate in hall[2]]),)
        self.is_same([moves_by(hall, star, first) for first in range(4)], [2, 3, 3, 3])

    def test_halls_of_both_kinds(self):
        for hall in (PAIR, SPLIT, NEVER, FREE, ROW):
            self.is_same(moves_by(hall, ((hall[0],), ()), 0), len(hall[0]))

    def test_wrong_values(self):
        good = {"hall": ENDS, "bags": TWOS, "first": 0}
        self.refuses_parameter(moves_by, good, "hall", NO_HALLS, "hall")
        wrong = ANY + (list(TWOS), TWOS[:1], (TWOS[0], ()), (TWOS[0][:2], ((0, 1),)), ((LINE[0],), ()), ((ROW[0],), ()))
        self.refuses_parameter(moves_by, good, "bags", wrong, "bags")
        self.refuses_parameter(moves_by, good, "first", NO_INDEXES, "first", VALUE)


class Consequences(Case):
    def test_moves_by_and_the_fewest_moves(self):
        for hall in FEW:
            for bags in trees(hall, 2):
                for first in range(len(bags[0])):
                    told = moves_by(hall, bags, first)
                    self.assertTrue(size_of(bags) <= told <= len(hall[0]))
                    if not slow_wholes(hall):
                        for m in range(size_of(bags), len(hall[0]) + 1):
                            self.assertLessEqual(moves(hall, m), told)

    def test_each_filling_of_a_bag_is_part_of_a_whole_one(self):
        for hall in KEPT:
            for bags in trees(hall, 1):
                for m in {size_of(bags), len(hall[0])}:
                    known = set(slow_family(hall, m))
                    parts = {whole: self.parts(bags, whole) for whole in slow_wholes(hall)}
                    glued = [whole for whole in parts if set(parts[whole]) <= known]
                    for index in range(len(bags[0])):
                        ones = [one for one in known if tuple([chest for chest, _ in one]) == bags[0][index]]
                        self.assertEqual(set(ones), {parts[whole][index] for whole in glued})

    def parts(self, bags, whole):
        """The parts of a whole filling in each of the bags."""
        return [tuple([pair for pair in whole if pair[0] in lot]) for lot in bags[0]]

    def test_a_family_for_the_size_tells_that_a_hall_can_be_kept(self):
        for hall in FEW:
            for seed in range(3):
                bags = drawn_bags(slow_web(hall), seed + 20)
                told = family(hall, size_of(bags))
                self.assertEqual(told is None, not slow_wholes(hall))
                if told is not None:
                    self.assertTrue(slow_sound(hall, kept_by(hall, bags, told)))


class Arguments(Case):
    def test_first_ones_count(self):
        for hall, bags, told, word in itertools.product((None, LOOSE), (None, TWOS), (None,), ("family",)):
            expected = "hall" if hall is None else "bags" if bags is None else word
            self.refuses(NotUsable(expected, -1), kept_by, hall, bags, told)


if __name__ == "__main__":
    unittest.main()
