"""[71] and [73]: hide, switched_family."""

import itertools
import unittest

from keptopen.bags import size_of_web
from keptopen.errors import NotUsable
from keptopen.families import family, is_family
from keptopen.hiding import hide, switched_family
from keptopen.thickets import thicket
from support import ANY, DOT, DOTS, EIGHT, FOUR, FULL, LADDER, NO_LOTS, NO_WEBS, RING, SEVEN, STAR, THREE_BY_THREE, TWO, VALUE, WAY
from support import WEBS, Case, Draw, all_lots, slow_fillings, slow_gates_at, slow_hangs, slow_pieces, slow_right, slow_sound
from support import slow_switched
from test_plays import NO_MS
from test_switched import FULLEST

ALONE = (("a",), ("b",), ("c",))
SMALL = (RING, WAY, FOUR, TWO, EIGHT, LADDER, STAR) + FULL[:3] + tuple([web for web in WEBS[-40:] if len(web[0]) <= 4])
# No lots for WAY, and none for RING either.
NO_SETS = ANY + (
    [("a",), ("b",)], (["a"], ["b"]), (("b",), ("a",)), (("a",), ("a",)), (("a",), ()), ((), ("a",)), (("a",), ("d",)),
    (("a",), ("b", "a")), (("a",), None), ("a", "b"), (("a",), ("b", 1)), (("a",), ["b"]), ((True,),),
)


def slow_touch(web, one, other):
    """Whether two lots touch, straight from [8]."""
    if set(one) & set(other):
        return True
    return any(tuple(sorted((a, b))) in web[1] for a in one for b in other)


def drawn_lots(web, draw):
    """A set of lots that hang together, each two of which touch."""
    hang = [lot for lot in all_lots(web[0]) if slow_hangs(web, lot)]
    lots = []
    for _ in range(1 + draw.below(6)):
        lot = hang[draw.below(len(hang))]
        if all(slow_touch(web, lot, other) for other in lots):
            lots.append(lot)
    return tuple(sorted(set(lots)))


def slow_hide(web, lots, lot):
    """The part of the web without the lot in which all lots lie that have no chest of it; None if there are none."""
    clear = [other for other in lots if not set(other) & set(lot)]
    found = [part for part in slow_pieces(web, lot) if any(set(other) <= set(part) for other in clear)]
    assert len(found) == (1 if clear else 0)
    assert not clear or all(set(other) <= set(found[0]) for other in clear)
    return found[0] if found else None


def slow_switched_family(web, odd, m, lots):
    """The family of [71], straight from the words."""
    found = []
    hall = slow_switched(web, (odd,))
    for filling in slow_fillings(hall):
        if len(filling) <= m and slow_sound(hall, filling) and is_in(web, odd, lots, filling):
            found.append(filling)
    return tuple(found)


def is_in(web, odd, lots, filling):
    """Whether the gates with the bit 1 are even, or odd, in number, as [71] tells it."""
    lot = tuple([chest for chest, _ in filling])
    hidden = slow_hide(web, lots, lot)
    for part in slow_pieces(web, lot):
        ones = 0
        for chest, thing in filling:
            for gate, bit in zip(slow_gates_at(web, chest), slow_right(web, (odd,), chest)[thing]):
                ones += bit == 1 and len(set(gate) & set(part)) == 1
        if part != hidden and ones % 2 != (odd in part):
            return False
    return True


def part_of(web, odd):
    """The part of the web that has a chest."""
    return [part for part in slow_pieces(web, ()) if odd in part][0]


def thickets(web, m):
    """Thickets for m in each part of the web, each with the chests of its part."""
    found = []
    for part in slow_pieces(web, ()):
        one = (part, tuple([gate for gate in web[1] if set(gate) <= set(part)]))
        lots = thicket(one, m)
        if lots is not None:
            found.append((part, lots))
    return found


class Hide(Case):
    def test_drawn_lots(self):
        kinds = set()
        for seed, web in enumerate(WEBS):
            draw = Draw(seed)
            for _ in range(3):
                lots = drawn_lots(web, draw)
                for lot in all_lots(web[0])[:: 1 + draw.below(4)]:
                    right = slow_hide(web, lots, lot)
                    kinds.add((right is None, len(slow_pieces(web, lot)) > 1))
                    if right is None:
                        self.refuses(NotUsable("lot", -1), hide, web, lots, lot)
                    else:
                        self.is_same(hide(web, lots, lot), right)
                        self.is_same(hide(lot=lot, lots=lots, web=web), right)
        self.assertEqual(len(kinds), 4)

    def test_thickets(self):
        for web in WEBS[:20]:
            for m in range(1, size_of_web(web)):
                lots = thicket(web, m)
                for lot in all_lots(web[0]):
                    if len(lot) <= m:
                        self.is_same(hide(web, lots, lot), slow_hide(web, lots, lot))

    def test_edges(self):
        self.is_same(hide(DOT, (("a",),), ()), ("a",))
        self.refuses(NotUsable("lot", -1), hide, DOT, (("a",),), ("a",))
        self.is_same(hide(TWO, (("y",), ("z",)), ("a", "b", "z")), ("y",))
        self.is_same(hide(DOTS, (("c",),), ()), ("c",))
        self.is_same(hide(WAY, (("a", "b"), ("b",), ("b", "c")), ("a", "c")), ("b",))
        self.is_same(hide(FOUR, (("a", "b"), ("b",), ("b", "c")), ("d",)), ("a", "b", "c"))

    def test_hidden_within(self):
        for seed, web in enumerate(WEBS[:40]):
            lots = drawn_lots(web, Draw(seed))
            for lot in all_lots(web[0])[::3]:
                if slow_hide(web, lots, lot) is not None:
                    for other in all_lots(lot):
                        self.assertTrue(set(hide(web, lots, lot)) <= set(hide(web, lots, other)))

    def test_wrong_values(self):
        good = {"web": WAY, "lots": (("a",), ("b",)), "lot": ("a",)}
        self.refuses_parameter(hide, good, "web", NO_WEBS, "web")
        # All but the last one are wrong for any web.
        self.refuses_parameter(hide, good, "lots", NO_SETS + ((("a",), ("c",)), (("a", "c"),), ALONE), "lots")
        wrong = NO_LOTS + (("a", "b"), ("a", "b", "c"), ("b", "d"))
        self.refuses_parameter(hide, good, "lot", wrong, "lot")


class SwitchedFamily(Case):
    def test_each_thicket_and_each_odd_chest(self):
        many = 0
        for web in SMALL:
            for m in range(1, size_of_web(web)):
                for part, lots in thickets(web, m):
                    for odd in web[0]:
                        if odd not in part:
                            self.refuses(NotUsable("lots", -1), switched_family, web, odd, m, lots)
                            continue
                        told = switched_family(web, odd, m, lots)
                        self.is_same(told, slow_switched_family(web, odd, m, lots))
                        self.is_same(switched_family(lots=lots, m=m, odd=odd, web=web), told)
                        self.assertTrue(is_family(slow_switched(web, (odd,)), m, told))
                        many += 1
        self.assertGreater(many, 40)

    def test_it_lies_in_the_greatest_family(self):
        for web in SMALL[:8]:
            for m in range(1, size_of_web(web)):
                for part, lots in thickets(web, m):
                    for odd in part[:2]:
                        told = switched_family(web, odd, m, lots)
                        self.assertTrue(set(told) <= set(family(slow_switched(web, (odd,)), m)))

    def test_lesser_m(self):
        for web in SMALL[:8]:
            for m in range(2, size_of_web(web)):
                for part, lots in thickets(web, m):
                    for less in range(1, m):
                        told = switched_family(web, part[-1], m, lots)
                        cut = tuple([one for one in told if len(one) <= less])
                        self.is_same(switched_family(web, part[-1], less, lots), cut)

    def test_each_m_up_to_one_more_than_the_lots_allow(self):
        for web in (RING, FOUR, LADDER) + FULL[:3]:
            lots = thicket(web, size_of_web(web) - 1)
            for m in range(1, size_of_web(web) + 2):
                if m < size_of_web(web):
                    self.assertTrue(is_family(slow_switched(web, ("a",)), m, switched_family(web, "a", m, lots)))
                else:
                    self.refuses(NotUsable("lots", -1), switched_family, web, "a", m, lots)
        self.refuses(NotUsable("lots", -1), switched_family, RING, "a", 10**59, ALONE)

    def test_other_lots_make_other_families(self):
        one, other = (("a",), ("b",)), (("b",), ("c",))
        self.is_same(switched_family(WAY, "a", 1, one)[2], (("b", 0),))
        self.is_same(switched_family(WAY, "a", 1, other)[2], (("b", 1),))
        self.is_same(switched_family(WAY, "c", 1, one), ((), (("a", 0),), (("b", 1),), (("c", 0),)))

    def test_several_parts(self):
        told = switched_family(TWO, "y", 1, (("y",), ("z",)))
        self.is_same(told, slow_switched_family(TWO, "y", 1, (("y",), ("z",))))
        self.is_same([one for one in told if one and one[0][0] == "y"], [(("y", 0),)])
        for odd in ("a", "b", "c"):
            self.refuses(NotUsable("lots", -1), switched_family, TWO, odd, 1, (("y",), ("z",)))
            self.assertTrue(is_family(slow_switched(TWO, (odd,)), 2, switched_family(TWO, odd, 2, ALONE)))
        for odd in ("y", "z"):
            self.refuses(NotUsable("lots", -1), switched_family, TWO, odd, 1, ALONE)

    def test_wrong_values(self):
        good = {"web": RING, "odd": "a", "m": 2, "lots": ALONE}
        self.refuses_parameter(switched_family, good, "web", NO_WEBS, "web")
        wrong = [value for value in ANY if value not in ("a", "b")] + ["d", ("a",), ["a"], 0]
        self.refuses_parameter(switched_family, good, "odd", wrong, "chest", VALUE)
        self.refuses_parameter(switched_family, good, "m", NO_MS, "m", VALUE)
        wrong = NO_SETS + (ALONE[:2], ALONE[1:], ALONE[:1], (("a", "b"), ("c",)), (("a", "b", "c"),), ALONE + (("d",),), ALONE[::-1])
        self.refuses_parameter(switched_family, good, "lots", wrong, "lots")

    def test_chests_without_gates(self):
        # No lot is left for one open chest, so that there is no thicket.
        self.refuses(NotUsable("lots", -1), switched_family, DOT, "a", 1, (("a",),))
        self.refuses(NotUsable("lots", -1), switched_family, DOTS, "a", 1, (("a",), ("b",)))

    def test_great_webs(self):
        for web, m in ((THREE_BY_THREE, 3), (FULLEST, 2), (SEVEN, 2)):
            lots = thicket(web, m)
            told = switched_family(web, "a", m, lots)
            hall = slow_switched(web, ("a",))
            self.assertTrue(is_family(hall, m, told))
            self.assertLessEqual(set(told), set(family(hall, m)))
        lots = tuple(itertools.chain([tuple("abc")], [(name,) for name in "def"]))
        self.refuses(NotUsable("lots", -1), switched_family, THREE_BY_THREE, "a", 3, lots)


if __name__ == "__main__":
    unittest.main()
