"""[57], [59] and [60]: dead_paper."""

import unittest

from keptopen.bags import tree_of_bags
from keptopen.bybags import dead_at
from keptopen.deadpapers import dead_paper
from keptopen.errors import NotUsable
from keptopen.webparts import web_of
from support import ANY, DRAWN, FREE, GREAT, HALLS, LINE, LONG, NEVER, NO_HALLS, PAIR, ROW, SPLIT, SUMS, TIED, TIGHT, VALUE, Case
from support import drawn_bags, slow_counts, slow_next, slow_sound_of, slow_web, slow_wholes
from test_bybags import ENDS, LOOSE, NO_INDEXES, TWOS, trees

LOST = tuple([hall for hall in HALLS + (TIED,) + DRAWN + TIGHT if not slow_wholes(hall) and hall != LONG])


class DeadPaper(Case):
    def is_dead_paper(self, hall, bags, first, paper):
        """The paper has all that the words of [59] ask for."""
        self.assertEqual((type(paper), len(paper)), (tuple, len(bags[0])))
        for index, fillings in enumerate(paper):
            self.is_same(fillings, tuple(sorted(set(fillings))))
            for one in fillings:
                self.assertIn(one, slow_sound_of(hall, bags[0][index]))
                after = slow_next(bags, first, index)
                self.assertTrue(any(self.all_in(hall, bags, index, other, one, paper) for other in after))
        self.assertEqual(paper[first], slow_sound_of(hall, bags[0][first]))

    def all_in(self, hall, bags, index, other, filling, paper):
        """Whether each sound filling of the other bag that holds the same in the chests of both is in its set."""
        both = set(bags[0][index]) & set(bags[0][other])
        shared = {pair for pair in filling if pair[0] in both}
        ones = slow_sound_of(hall, bags[0][other])
        return all(one in paper[other] for one in ones if {pair for pair in one if pair[0] in both} == shared)

    def test_each_first_bag(self):
        for hall in LOST:
            for bags in trees(hall, 2):
                for first in range(len(bags[0])):
                    paper = dead_paper(hall, bags, first)
                    self.is_dead_paper(hall, bags, first, paper)
                    self.is_same(dead_paper(first=first, bags=bags, hall=hall), paper)

    def test_each_filling_of_the_sets_is_dead(self):
        for hall in LOST[::3]:
            for bags in trees(hall, 1):
                for first in range(len(bags[0])):
                    for index, fillings in enumerate(dead_paper(hall, bags, first)):
                        dead = [one for one, number in slow_counts(hall, bags, first, index) if number == 0]
                        self.assertTrue(set(fillings) <= set(dead))

    def test_edges(self):
        self.is_same(dead_paper(NEVER, ((("a",),), ()), 0), ((),))
        split = ((("b",), (), ("a",)), ((0, 1), (1, 2)))
        self.is_same(dead_paper(SPLIT, split, 2), ((), ((),), ((("a", 0),),)))
        self.is_same(dead_paper(SPLIT, split, 0), ((), (), ()))
        # PAIR has no sound filling of both chests.
        self.is_same(dead_paper(PAIR, ((("a", "b"),), ()), 0), ((),))
        self.is_dead_paper(ENDS, TWOS, 1, dead_paper(ENDS, TWOS, 1))

    def test_halls_of_six_chests(self):
        for hall in (LONG, SUMS):
            for seed in range(3):
                bags = drawn_bags(slow_web(hall), seed)
                for first in range(len(bags[0])):
                    self.is_dead_paper(hall, bags, first, dead_paper(hall, bags, first))

    def test_great_halls(self):
        for hall in GREAT[:3]:
            bags = tree_of_bags(web_of(hall))
            for first in (0, len(bags[0]) - 1):
                paper = dead_paper(hall, bags, first)
                self.is_same(paper[first], dead_at(hall, bags, first, first))
                self.is_same(len(paper), len(bags[0]))

    def test_halls_that_can_be_kept(self):
        for hall in HALLS + DRAWN + TIGHT:
            if slow_wholes(hall):
                bags = ((hall[0],), ())
                self.refuses(NotUsable("hall", -1), dead_paper, hall, bags, 0)
                # This comes last.
                self.refuses(NotUsable("first", 1), dead_paper, hall, bags, 1)
                self.refuses(NotUsable("bags", -1), dead_paper, hall, (), 0)
        for first in range(3):
            self.refuses(NotUsable("hall", -1), dead_paper, LOOSE, TWOS, first)
        self.refuses(NotUsable("first", True), dead_paper, FREE, ((FREE[0],), ()), True)

    def test_wrong_values(self):
        good = {"hall": ENDS, "bags": TWOS, "first": 0}
        self.refuses_parameter(dead_paper, good, "hall", NO_HALLS, "hall")
        wrong = ANY + (list(TWOS), TWOS[:1], (TWOS[0], ()), (TWOS[0][:2], ((0, 1),)), ((LINE[0],), ()), ((ROW[0],), ()))
        self.refuses_parameter(dead_paper, good, "bags", wrong, "bags")
        self.refuses_parameter(dead_paper, good, "first", NO_INDEXES, "first", VALUE)


if __name__ == "__main__":
    unittest.main()
