"""[4], [21], [23] and [24]: broken_by, is_sound, fitting, parts_of."""

import unittest

from keptopen.errors import NotUsable
from keptopen.fillings import broken_by, fitting, is_sound, parts_of
from support import ANY, DRAWN, HALLS, NEVER, NO_HALLS, PAIR, ROW, SPLIT, TIGHT, VALUE, Case
from support import slow_breaks, slow_fillings, slow_parts, slow_sound

FEW = HALLS + DRAWN[:60] + TIGHT[:10]
SMALL = tuple([hall for hall in FEW if len(hall[0]) <= 3]) + TIGHT[:1]

# What is no filling of PAIR.
NO_FILLINGS = tuple([value for value in ANY if not (type(value) is tuple and value in ((), (("a", 0),)))]) + (
    (("a", 2),), (("b", 0), ("a", 0)), (("a", 0), ("a", 0)), (("c", 0),), (("a", 0), ("b", True)), (("a", 0, 0),), (["a", 0],),
)


class Fillings(Case):
    def test_broken_by_and_is_sound(self):
        for hall in FEW:
            for filling in slow_fillings(hall):
                broken = tuple([k for k in range(len(hall[2])) if slow_breaks(hall, filling, k)])
                self.is_same(broken_by(hall, filling), broken)
                self.is_same(is_sound(hall, filling), broken == ())
        self.is_same(broken_by(filling=(("a", 1),), hall=PAIR), (0,))
        self.is_same(is_sound(filling=(("a", 1),), hall=PAIR), False)

    def test_a_seal_without_rows_and_one_that_stands_twice(self):
        self.is_same(broken_by(NEVER, (("a", 2),)), (0,))
        self.is_same(broken_by(NEVER, ()), ())
        self.is_same(broken_by(SPLIT, (("b", 1),)), (0, 2))
        self.is_same(fitting(NEVER, (), "a"), ())
        self.is_same(fitting(SPLIT, (("a", 0),), "b"), ())
        self.is_same(fitting(SPLIT, (("b", 0),), "a"), ())

    def test_fitting(self):
        for hall in FEW:
            for filling in slow_fillings(hall):
                for chest, size in zip(hall[0], hall[1]):
                    if chest not in dict(filling):
                        longer = [tuple(sorted(filling + ((chest, thing),))) for thing in range(size)]
                        things = tuple([thing for thing in range(size) if slow_sound(hall, longer[thing])])
                        self.is_same(fitting(hall, filling, chest), things)
                        self.is_same(fitting(chest=chest, filling=filling, hall=hall), things)

    def test_parts_of(self):
        for hall in FEW:
            for filling in slow_fillings(hall):
                self.is_same(parts_of(hall, filling), slow_parts(filling))
        self.is_same(parts_of(filling=(("b", 1),), hall=PAIR), ((), (("b", 1),)))

    def test_wrong_values(self):
        for call in (broken_by, is_sound, parts_of):
            good = {"hall": PAIR, "filling": ()}
            self.refuses_parameter(call, good, "hall", NO_HALLS, "hall")
            self.refuses_parameter(call, good, "filling", NO_FILLINGS, "filling")
        good = {"hall": PAIR, "filling": (("a", 0),), "chest": "b"}
        self.refuses_parameter(fitting, good, "hall", NO_HALLS, "hall")
        self.refuses_parameter(fitting, good, "filling", NO_FILLINGS, "filling")
        no_chests = [value for value in ANY if value != "b"] + ["c", "bb"]
        self.refuses_parameter(fitting, good, "chest", no_chests, "chest", VALUE)

    def test_a_chest_that_stands_in_the_filling(self):
        self.refuses(NotUsable("chest", "b"), fitting, ROW, (("b", 0),), "b")
        # Even where the filling is not sound.
        self.refuses(NotUsable("chest", "b"), fitting, ROW, (("b", 0), ("c", 2)), "b")


class Consequences(Case):
    def test_parts_of_sound_fillings(self):
        for hall in SMALL:
            self.assertIs(is_sound(hall, ()), True)
            for filling in slow_fillings(hall):
                parts = parts_of(hall, filling)
                self.assertEqual(len(parts), 2 ** len(filling))
                for part in parts:
                    self.assertLessEqual(set(broken_by(hall, part)), set(broken_by(hall, filling)))
                    self.assertLessEqual(set(parts_of(hall, part)), set(parts))
                    self.assertTrue(is_sound(hall, part) or not is_sound(hall, filling))
                small = [part for part in parts if len(part) <= 3]
                self.assertEqual(is_sound(hall, filling), all(is_sound(hall, part) for part in small))

    def test_what_fits_fits_to_each_part(self):
        for hall in SMALL:
            for filling in slow_fillings(hall):
                for chest in [chest for chest in hall[0] if chest not in dict(filling)]:
                    things = set(fitting(hall, filling, chest))
                    for part in parts_of(hall, filling):
                        self.assertLessEqual(things, set(fitting(hall, part, chest)))


if __name__ == "__main__":
    unittest.main()
