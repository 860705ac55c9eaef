"""[25] and [26]: whole_fillings, many_wholes, some_whole, held_things, sure_things."""

import unittest

from keptopen.families import is_family
from keptopen.fillings import broken_by
from keptopen.wholes import held_things, many_wholes, some_whole, sure_things, whole_fillings
from support import ALONE, ANY, DRAWN, FREE, HALF, HALLS, NEVER, NO_HALLS, PAIR, SPLIT, TIGHT, VALUE, Case
from support import slow_parts, slow_wholes

ALL = HALLS + DRAWN + TIGHT


class Wholes(Case):
    def test_whole_fillings_and_many_wholes(self):
        for hall in ALL:
            wholes = slow_wholes(hall)
            self.is_same(whole_fillings(hall), wholes)
            self.is_same(whole_fillings(hall=hall), wholes)
            self.is_same(many_wholes(hall), len(wholes))
            self.is_same(many_wholes(hall=hall), len(wholes))

    def test_some_whole(self):
        for hall in ALL:
            for one in (some_whole(hall), some_whole(hall=hall)):
                wholes = slow_wholes(hall)
                self.assertTrue(any(self.equal(one, whole) for whole in wholes) if wholes else one is None)

    def equal(self, one, other):
        return repr(one) == repr(other)

    def test_held_things(self):
        for hall in ALL:
            for chest in hall[0]:
                things = tuple(sorted({dict(whole)[chest] for whole in slow_wholes(hall)}))
                self.is_same(held_things(hall, chest), things)
                self.is_same(held_things(chest=chest, hall=hall), things)

    def test_sure_things(self):
        for hall in ALL:
            wholes = slow_wholes(hall)
            sure = None
            if wholes:
                sure = tuple(sorted(set(wholes[0]).intersection(*[set(whole) for whole in wholes])))
            self.is_same(sure_things(hall), sure)
            self.is_same(sure_things(hall=hall), sure)

    def test_edges(self):
        self.is_same(whole_fillings(ALONE), ((("a", 0),),))
        self.is_same(sure_things(ALONE), (("a", 0),))
        self.is_same(many_wholes(FREE), 6)
        self.is_same(sure_things(FREE), (("a", 0),))
        for hall in (NEVER, SPLIT):
            self.is_same((whole_fillings(hall), many_wholes(hall), some_whole(hall), sure_things(hall)), ((), 0, None, None))
            self.is_same(held_things(hall, hall[0][-1]), ())

    def test_wrong_values(self):
        for call in (whole_fillings, many_wholes, some_whole, sure_things):
            self.refuses_parameter(call, {"hall": PAIR}, "hall", NO_HALLS, "hall")
        good = {"hall": HALF, "chest": "a"}
        self.refuses_parameter(held_things, good, "hall", NO_HALLS, "hall")
        no_chests = [value for value in ANY if value not in ("a", "b")] + ["d", "aa"]
        self.refuses_parameter(held_things, good, "chest", no_chests, "chest", VALUE)


class Consequences(Case):
    def test_kept_exactly_if_there_is_one(self):
        for hall in ALL:
            kept = len(slow_wholes(hall)) > 0
            self.assertEqual((some_whole(hall) is not None, many_wholes(hall) != 0), (kept, kept))
            if kept:
                self.assertEqual(broken_by(hall, some_whole(hall)), ())

    def test_sure_things_stand_in_each_whole(self):
        for hall in ALL:
            sure = sure_things(hall)
            if sure is not None:
                self.assertTrue(all(set(sure) <= set(whole) for whole in whole_fillings(hall)))
                self.assertEqual([c in dict(sure) for c in hall[0]], [len(held_things(hall, c)) == 1 for c in hall[0]])

    def test_a_seal_more_or_a_row_less(self):
        for hall in ALL:
            wholes = set(whole_fillings(hall))
            more = hall[:2] + (hall[2] + ((hall[0][:1], ((0,),)),),)
            self.assertLessEqual(set(whole_fillings(more)), wholes)
            for k, (lot, rows) in enumerate(hall[2]):
                less = hall[:2] + (hall[2][:k] + ((lot, rows[1:]),) + hall[2][k + 1 :],)
                self.assertLessEqual(set(whole_fillings(less)), wholes)

    def test_parts_of_all_wholes_are_a_family(self):
        for hall in ALL:
            for m in range(1, len(hall[0]) + 2):
                parts = {part for whole in whole_fillings(hall) for part in slow_parts(whole) if len(part) <= m}
                self.assertEqual(is_family(hall, m, tuple(sorted(parts))), many_wholes(hall) > 0)


if __name__ == "__main__":
    unittest.main()
