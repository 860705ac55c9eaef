"""[57], [59] and [60]: lets_dead."""

import unittest

from keptopen.bags import tree_of_bags
from keptopen.bybags import dead_at
from keptopen.deadchecker import lets_dead
from keptopen.deadpapers import dead_paper
from keptopen.errors import InvalidPaper, NotUsable
from keptopen.webparts import web_of
from support import ALONE, ANY, DRAWN, FREE, GREAT, HALLS, LINE, LONG, NEVER, NO_HALLS, PAIR, ROW, SPLIT, SUMS, TIED, TIGHT
from support import VALUE, Case, Draw, drawn_bags, same, shared_part, slow_next, slow_sound_of, slow_web, slow_wholes
from test_bybags import ENDS, LOOSE, NO_INDEXES, TWOS, trees

LOST = tuple([hall for hall in HALLS + (TIED,) + DRAWN + TIGHT if not slow_wholes(hall) and hall != LONG])
KEPT = tuple([hall for hall in HALLS + DRAWN[:60] + TIGHT[:20] if slow_wholes(hall) and hall != LONG])
ZEROS = (((("a", 0), ("b", 0)),), ((("b", 0), ("c", 0)),), ())


def slow_fault(hall, bags, first, sets):
    """The first fault of a value as a paper, straight from the words of [59]; None for a paper."""
    if type(sets) is not tuple or len(sets) != len(bags[0]):
        return ("shape", -1)
    for k, lot in enumerate(bags[0]):
        right = slow_sound_of(hall, lot)
        if type(sets[k]) is not tuple or not all(any(same(one, other) for other in right) for one in sets[k]):
            return ("set", k)
        if list(sets[k]) != sorted(set(sets[k])):
            return ("set", k)
    for one in slow_sound_of(hall, bags[0][first]):
        if one not in sets[first]:
            return ("first", one)
    for k, fillings in enumerate(sets):
        for j, filling in enumerate(fillings):
            if not any(slow_all_in(hall, bags, k, other, filling, sets) for other in slow_next(bags, first, k)):
                return ("next", (k, j))
    return None


def slow_all_in(hall, bags, k, other, filling, sets):
    """Whether all sound fillings of the other bag that hold the same in the chests of both are in its set."""
    held = shared_part(bags, filling, k, other)
    ones = [one for one in slow_sound_of(hall, bags[0][other]) if shared_part(bags, one, k, other) == held]
    return all(one in sets[other] for one in ones)


def changed(draw, hall, bags, paper):
    """The paper with one or two things otherwise."""
    sets = list(paper)
    for _ in range(1 + draw.below(2)):
        k = draw.below(len(sets))
        fillings = list(sets[k]) if type(sets[k]) is tuple else []
        more = list(slow_sound_of(hall, bags[0][draw.below(len(sets))]))
        kind = draw.below(8)
        if kind < 2 and fillings:
            fillings.pop(draw.below(len(fillings)))
        elif kind < 4 and more:
            fillings = sorted(set(fillings) | {more[draw.below(len(more))]})
        elif kind == 4:
            fillings = fillings[::-1]
        elif kind == 5 and fillings:
            fillings = fillings + fillings[-1:]
        elif kind == 6 and fillings:
            at = draw.below(len(fillings))
            fillings[at] = fillings[at][:-1] + tuple([(chest, thing + 1) for chest, thing in fillings[at][-1:]])
        else:
            fillings = sorted(more)
        sets[k] = tuple(fillings)
    return tuple(sets)


class Right(Case):
    def test_each_dead_paper_with_each_first_bag(self):
        for hall in LOST:
            for bags in trees(hall, 2):
                for first in range(len(bags[0])):
                    paper = dead_paper(hall, bags, first)
                    many = sum(len(fillings) for fillings in paper)
                    self.is_same(lets_dead(hall, bags, first, paper), many)
                    self.is_same(lets_dead(thing=paper, first=first, bags=bags, hall=hall), many)

    def test_halls_of_six_chests(self):
        for hall in (LONG, SUMS):
            for seed in range(3):
                bags = drawn_bags(slow_web(hall), seed)
                for first in range(len(bags[0])):
                    self.assertGreaterEqual(lets_dead(hall, bags, first, dead_paper(hall, bags, first)), 0)

    def test_fewer_fillings_than_dead_paper_has(self):
        # Not all dead fillings are needed: those that can be left out, and none more, make a paper, too.
        found = set()
        for hall in LOST:
            for bags in trees(hall, 1):
                paper = dead_paper(hall, bags, 0)
                for k, fillings in enumerate(paper):
                    for one in fillings:
                        less = paper[:k] + (tuple([other for other in fillings if other != one]),) + paper[k + 1 :]
                        fault = slow_fault(hall, bags, 0, less)
                        found.add(fault is None)
                        if fault is None:
                            self.is_same(lets_dead(hall, bags, 0, less), sum(len(told) for told in less))
                        else:
                            self.refuses(InvalidPaper(*fault), lets_dead, hall, bags, 0, less)
        self.assertEqual(found, {True, False})

    def test_edges(self):
        one = ((("a",),), ())
        self.is_same(lets_dead(NEVER, one, 0, ((),)), 0)
        self.refuses(InvalidPaper("first", (("a", 0),)), lets_dead, ALONE, one, 0, ((),))
        self.refuses(InvalidPaper("next", (0, 0)), lets_dead, ALONE, one, 0, (((("a", 0),),),))
        split = ((("b",), (), ("a",)), ((0, 1), (1, 2)))
        self.is_same(lets_dead(SPLIT, split, 2, ((), ((),), ((("a", 0),),))), 2)
        self.is_same(lets_dead(SPLIT, split, 0, ((), (), ())), 0)
        self.refuses(InvalidPaper("first", ()), lets_dead, SPLIT, split, 1, ((), (), ()))
        self.refuses(InvalidPaper("next", (2, 0)), lets_dead, SPLIT, split, 2, ((), (), ((("a", 0),),)))

    def test_great_halls(self):
        many = 0
        for hall in GREAT:
            bags = tree_of_bags(web_of(hall))
            for first in range(len(bags[0])):
                paper = tuple([dead_at(hall, bags, first, index) for index in range(len(bags[0]))])
                if not slow_wholes(hall):
                    self.is_same(lets_dead(hall, bags, first, paper), sum(len(fillings) for fillings in paper))
                    many += 1
                else:
                    with self.assertRaises(InvalidPaper) as caught:
                        lets_dead(hall, bags, first, paper)
                    self.assertEqual(caught.exception.word, "first")
        self.assertGreater(many, 3)

    def test_bags_with_very_many_fillings(self):
        bag, hall = tuple("abcde"), (tuple("abcdef"), (4,) * 6, ((("f",), ()),))
        bags = ((bag,) * 8 + (("f",),), tuple([(k, k + 1) for k in range(8)]))
        paper = dead_paper(hall, bags, 0)
        self.is_same(lets_dead(hall, bags, 0, paper), 8 * 1024)
        self.refuses(InvalidPaper("next", (7, 0)), lets_dead, hall[:2] + ((),), bags, 0, paper)


class Wrong(Case):
    def test_the_first_fault_counts(self):
        words = {}
        for seed, hall in enumerate(LOST + KEPT[::3]):
            draw = Draw(seed)
            for bags in trees(hall, 2):
                first = draw.below(len(bags[0]))
                paper = tuple([dead_at(hall, bags, first, index) for index in range(len(bags[0]))])
                for _ in range(12):
                    told = changed(draw, hall, bags, paper)
                    fault = slow_fault(hall, bags, first, told)
                    words[fault and fault[0]] = words.get(fault and fault[0], 0) + 1
                    if fault is None:
                        self.is_same(lets_dead(hall, bags, first, told), sum(len(fillings) for fillings in told))
                    else:
                        self.refuses(InvalidPaper(*fault), lets_dead, hall, bags, first, told)
        self.assertEqual(set(words), {None, "set", "first", "next"})
        self.assertTrue(all(many > 30 for many in words.values()), words)

    def test_shapes(self):
        for value in ANY + (list(ZEROS), ZEROS[:2], ZEROS + ((),), ()):
            if not (type(value) is tuple and len(value) == 3):
                self.refuses(InvalidPaper("shape", -1), lets_dead, ENDS, TWOS, 0, value)
        self.is_same(lets_dead(ENDS, TWOS, 0, ZEROS), 2)

    def test_sets(self):
        pair = (("b", 0), ("c", 0))
        wrong = ANY[:-2] + (
            [pair], (list(pair),), (pair, pair), (pair[::-1],), (pair[:1],), (((("a", 0),) + pair),), ((("a", 0), ("b", 0)),),
            ((("b", 0), ("c", False)),), ((("b", False), ("c", 0)),), ((("b", 0), ("c", 1)),), ((("b", 0), ("c", 2)),),
            ((("b", 1), ("c", 1)), pair), ((("b", 0), ["c", 0]),), ((("b", 0), ("c",)),), (pair + (("d", 0),),), ("bc",),
        )
        wrong = [value for value in wrong if not (type(value) is tuple and len(value) == 0)]
        for value in wrong:
            self.refuses(InvalidPaper("set", 1), lets_dead, ENDS, TWOS, 0, (ZEROS[0], value, ()))
            # The first set that is wrong counts, and this ahead of what is lacking.
            self.refuses(InvalidPaper("set", 1), lets_dead, ENDS, TWOS, 0, ((), value, value))
            self.refuses(InvalidPaper("set", 1), lets_dead, ENDS, TWOS, 2, ((), value, ()))
        self.refuses(InvalidPaper("set", 0), lets_dead, ENDS, TWOS, 0, (((),), ZEROS[1], 7))

    def test_lacking_fillings(self):
        self.refuses(InvalidPaper("first", (("a", 0), ("b", 0))), lets_dead, ENDS, TWOS, 0, ((), (), ()))
        self.refuses(InvalidPaper("first", (("b", 0), ("c", 0))), lets_dead, ENDS, TWOS, 1, ZEROS[:1] + ((), ()))
        self.refuses(InvalidPaper("first", (("b", 1), ("c", 1))), lets_dead, ENDS, TWOS, 1, ZEROS)
        ones = ((("c", 1), ("d", 1)),)
        self.refuses(InvalidPaper("next", (0, 0)), lets_dead, ENDS, TWOS, 2, (ZEROS[0], ZEROS[1], ones))
        self.refuses(InvalidPaper("next", (1, 0)), lets_dead, ENDS, TWOS, 2, ((), ZEROS[1], ones))
        self.refuses(InvalidPaper("next", (0, 0)), lets_dead, ENDS, TWOS, 0, (ZEROS[0], (), ()))
        # Each next bag counts by itself: what is left in one of them is no matter if another one has all in its set.
        star = ((("a", "b"), ("b", "c"), ("b",)), ((0, 1), (0, 2)))
        hall = (tuple("abc"), (1, 1, 1), ((("a", "b"), ((0, 0),)), (("b", "c"), ((0, 0),)), (("b",), ((0,),))))
        paper = (((("a", 0), ("b", 0)),), (), ())
        self.refuses(InvalidPaper("next", (0, 0)), lets_dead, hall, star, 0, paper)
        never = hall[:2] + (hall[2] + ((("b",), ()),),)
        self.is_same(lets_dead(never, star, 0, ((), (), ())), 0)
        lost = hall[:2] + ((hall[2][0], (("b", "c"), ())),)
        self.is_same(lets_dead(lost, star, 0, paper), 1)

    def test_wrong_parameters(self):
        good = {"hall": ENDS, "bags": TWOS, "first": 0, "thing": ZEROS}
        self.refuses_parameter(lets_dead, good, "hall", NO_HALLS, "hall")
        wrong = ANY + (list(TWOS), TWOS[:1], (TWOS[0], ()), (TWOS[0][:2], ((0, 1),)), ((LINE[0],), ()), ((ROW[0],), ()))
        self.refuses_parameter(lets_dead, good, "bags", wrong, "bags")
        self.refuses_parameter(lets_dead, good, "first", NO_INDEXES, "first", VALUE)


class Consequences(Case):
    def test_halls_that_can_be_kept(self):
        for seed, hall in enumerate(KEPT):
            draw = Draw(seed)
            for bags in trees(hall, 1):
                first = draw.below(len(bags[0]))
                sound = tuple([slow_sound_of(hall, lot) for lot in bags[0]])
                dead = tuple([dead_at(hall, bags, first, index) for index in range(len(bags[0]))])
                for paper in (sound, dead, tuple([() for _ in sound]), dead[:first] + sound[first : first + 1] + dead[first + 1 :]):
                    with self.assertRaises(InvalidPaper):
                        lets_dead(hall, bags, first, paper)
        self.refuses(InvalidPaper("next", (1, 0)), lets_dead, LOOSE, TWOS, 0, ZEROS)
        self.refuses(NotUsable("first", 3), lets_dead, FREE, ((FREE[0],), ()), 3, ())

    def test_what_is_accepted_is_dead(self):
        for seed, hall in enumerate(LOST[::2]):
            draw = Draw(seed)
            for bags in trees(hall, 1):
                for first in range(len(bags[0])):
                    paper = dead_paper(hall, bags, first)
                    told = changed(draw, hall, bags, paper)
                    if slow_fault(hall, bags, first, told) is None:
                        self.is_same(lets_dead(hall, bags, first, told), sum(len(fillings) for fillings in told))
                        for index, fillings in enumerate(told):
                            self.assertTrue(set(fillings) <= set(dead_at(hall, bags, first, index)))

    def test_one_bag_of_all_chests(self):
        for hall in LOST:
            bags = ((hall[0],), ())
            self.is_same(lets_dead(hall, bags, 0, ((),)), 0)
        self.is_same(lets_dead(PAIR, ((("a", "b"),), ()), 0, ((),)), 0)


if __name__ == "__main__":
    unittest.main()
