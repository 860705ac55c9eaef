"""[5], [6], [9] (O1), (O2), [29] to [31]: moves, grasp."""

import unittest

from keptopen.families import family
from keptopen.plays import grasp, moves
from keptopen.wholes import many_wholes
from support import ALONE, ANY, DRAWN, FREE, HALLS, LONG, NEVER, NO_HALLS, ODD, PAIR, SAME, SPLIT, TIGHT, TRIO, VALUE, Case
from support import slow_barred, slow_family, slow_fillings, slow_sound, slow_wholes

FEW = tuple([hall for hall in HALLS if hall != LONG]) + DRAWN[:100] + TIGHT[:30]
NO_MS = tuple([value for value in ANY if not (type(value) is int and value > 0)]) + ("1", (1,), [1], -1)


def as_number(told):
    """None as more than any number."""
    return 10**9 if told is None else told


class Moves(Case):
    def test_moves(self):
        for hall in FEW:
            for m in range(1, len(hall[0]) + 3):
                told = slow_barred(hall, m).get(())
                self.is_same(moves(hall, m), told)
                self.is_same(moves(m=m, hall=hall), told)

    def test_chains(self):
        self.is_same([moves(LONG, m) for m in range(1, 9)], [None, 4, 3, 3, 3, 3, 3, 3])
        for many, told in ((2, (None, 2, 2)), (3, (None, 2, 2)), (4, (None, 3, 3)), (5, (None, 3, 3)), (7, (None, 4, 3))):
            names = tuple("abcdefg"[:many])
            seals = tuple([(two, SAME) for two in zip(names, names[1:])])
            hall = (names, (2,) * many, ((names[:1], ((0,),)),) + seals + ((names[-1:], ((1,),)),))
            self.is_same(tuple([moves(hall, m) for m in (1, 2, 3)]), told)

    def test_an_m_beyond_the_chests(self):
        for hall in FEW:
            many = len(hall[0])
            for m in (many + 1, many + 5, 10**59):
                self.is_same(moves(hall, m), moves(hall, many))

    def test_edges(self):
        self.is_same([moves(ALONE, 1), moves(NEVER, 1), moves(NEVER, 5), moves(FREE, 1), moves(FREE, 3)], [None, 1, 1, None, None])
        self.is_same([moves(SPLIT, 1), moves(SPLIT, 2), moves(TRIO, 2), moves(TRIO, 3)], [1, 1, None, 3])

    def test_grasp(self):
        for hall in FEW + (LONG,):
            rows = [m for m in range(1, len(hall[0]) + 1) if moves(hall, m) is not None]
            self.is_same(grasp(hall), min(rows, default=None))
            self.is_same(grasp(hall=hall), min(rows, default=None))
        self.is_same([grasp(ALONE), grasp(NEVER), grasp(PAIR), grasp(LONG), grasp(ODD)], [None, 1, 2, 2, 3])

    def test_wrong_values(self):
        self.refuses_parameter(grasp, {"hall": PAIR}, "hall", NO_HALLS, "hall")
        good = {"hall": PAIR, "m": 1}
        self.refuses_parameter(moves, good, "hall", NO_HALLS, "hall")
        self.refuses_parameter(moves, good, "m", NO_MS, "m", VALUE)


class Consequences(Case):
    def test_rows_or_a_family_and_not_both(self):
        for hall in FEW:
            for m in range(1, len(hall[0]) + 2):
                kept = slow_family(hall, m)
                self.assertEqual(moves(hall, m) is None, kept is not None)
                self.is_same(family(hall, m), kept)

    def test_halls_that_can_be_kept(self):
        for hall in HALLS + DRAWN + TIGHT:
            kept = len(slow_wholes(hall)) > 0
            self.assertEqual(kept, many_wholes(hall) > 0)
            self.assertEqual(grasp(hall) is None, kept)
            self.assertEqual(moves(hall, len(hall[0])) is None, kept)
            if kept:
                self.assertEqual({moves(hall, m) for m in range(1, len(hall[0]) + 2)}, {None})

    def test_moves_do_not_grow(self):
        for hall in FEW:
            told = [as_number(moves(hall, m)) for m in range(1, len(hall[0]) + 2)]
            self.assertEqual(told, sorted(told, reverse=True))
            more = hall[:2] + (hall[2] + ((hall[0][-1:], ((0,),)),),)
            self.assertTrue(all(as_number(moves(more, m)) <= told[m - 1] for m in range(1, len(told) + 1)))
            self.assertLessEqual(as_number(grasp(more)), as_number(grasp(hall)))

    def test_moves_are_at_most_the_sound_fillings(self):
        for hall in FEW:
            for m in range(1, len(hall[0]) + 1):
                if moves(hall, m) is not None:
                    sound = [one for one in slow_fillings(hall) if len(one) < m and slow_sound(hall, one)]
                    self.assertLessEqual(moves(hall, m), len(sound))

    def test_if_shut_is_barred_all_are_within_as_many_moves(self):
        for hall in FEW:
            for m in range(1, len(hall[0]) + 1):
                barred = slow_barred(hall, m)
                if () in barred:
                    sound = [one for one in slow_fillings(hall) if len(one) < m and slow_sound(hall, one)]
                    self.assertEqual(sorted(barred), sound)
                    self.assertEqual(moves(hall, m), max(barred.values()))


if __name__ == "__main__":
    unittest.main()
