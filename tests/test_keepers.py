"""[36] to [38]: class Keeper."""

import unittest

from keptopen.errors import NotUsable
from keptopen.families import family
from keptopen.hallchanges import with_seal
from keptopen.keepers import Keeper
from keptopen.plays import moves
from support import ALONE, ANY, DRAWN, FREE, GREAT, HALLS, LONG, NEVER, NO_HALLS, ODD, PAIR, ROW, SPLIT, TIGHT, VALUE
from support import Case, Draw, answers, same, slow_barred, slow_family, slow_fillings, slow_sound, slow_wholes
from test_fillings import NO_FILLINGS
from test_hallchanges import NO_SEALS
from test_plays import NO_MS

FEW = tuple([hall for hall in HALLS if hall != LONG]) + DRAWN[:40] + TIGHT[:12]
METHODS = (
    "__init__", "__contains__", "__len__", "__iter__", "__eq__", "__add__", "with_m", "things_for", "moves_from", "next_look",
    "hall_now", "m_now", "family_now", "moves_now",
)


def sound_ones(hall, m):
    """The sound fillings of at most m chests."""
    return [one for one in slow_fillings(hall) if len(one) <= m and slow_sound(hall, one)]


def lacking(hall, filling):
    """The chests that the filling lacks."""
    return [chest for chest in hall[0] if chest not in dict(filling)]


def slow_moves_from(hall, m, filling):
    """Within how many moves the filling is barred, straight from [31] and [37]."""
    barred = slow_barred(hall, m)
    if len(filling) < min(m, len(hall[0])):
        return barred.get(filling)
    parts = [tuple([pair for pair in filling if pair != gone]) for gone in filling]
    return min([barred[part] for part in parts if part in barred], default=None)


def games():
    """The halls, and each m from 1 to beyond the number of their chests."""
    return [(hall, m) for hall in FEW for m in range(1, len(hall[0]) + 3)] + [(LONG, 2), (LONG, 3), (LONG, 7)]


class Making(Case):
    def test_properties(self):
        for hall, m in games():
            for one in (Keeper(hall, m), Keeper(m=m, hall=hall)):
                told = (one.hall_now, one.m_now, one.family_now, one.moves_now)
                self.is_same(told, (hall, m, slow_family(hall, m) or (), slow_barred(hall, m).get(())))
                self.is_same(one.family_now, family(hall, m) or ())
                self.is_same(one.moves_now, moves(hall, m))

    def test_an_m_beyond_the_chests(self):
        for hall in (PAIR, ODD, FREE, NEVER, ALONE):
            one, far = Keeper(hall, len(hall[0])), Keeper(hall, 10**59)
            self.is_same((far.m_now, far.family_now, far.moves_now), (10**59, one.family_now, one.moves_now))
            self.assertIs(one == far, False)

    def test_wrong_values(self):
        good = {"hall": PAIR, "m": 1}
        self.refuses_parameter(Keeper, good, "hall", NO_HALLS, "hall")
        self.refuses_parameter(Keeper, good, "m", NO_MS, "m", VALUE)

    def test_each_method_is_defined_in_the_class(self):
        for name in METHODS:
            self.assertIn(name, vars(Keeper))


class Asking(Case):
    def test_things_for(self):
        for hall, m in games():
            one, kept = Keeper(hall, m), slow_family(hall, m) or ()
            for filling in sound_ones(hall, m):
                if len(filling) < m:
                    for chest in lacking(hall, filling):
                        things = [thing for thing, longer in enumerate(answers(hall, filling, chest)) if longer in kept]
                        self.is_same(one.things_for(filling, chest), tuple(things))
                        self.is_same(one.things_for(chest=chest, filling=filling), tuple(things))

    def test_moves_from(self):
        for hall, m in games():
            one = Keeper(hall, m)
            for filling in sound_ones(hall, m):
                self.is_same(one.moves_from(filling), slow_moves_from(hall, m, filling))
                self.is_same(one.moves_from(filling=filling), slow_moves_from(hall, m, filling))

    def test_next_look(self):
        for hall, m in games():
            one = Keeper(hall, m)
            for filling in sound_ones(hall, m):
                look = one.next_look(filling)
                self.is_same(one.next_look(filling=filling), look)
                left = one.moves_from(filling)
                self.assertEqual(look is None, left is None)
                if look is not None:
                    self.assertIs(type(look), tuple)
                    away, chest = look
                    self.assertIn(chest, lacking(hall, filling))
                    self.assertEqual(away is None, len(filling) < m)
                    self.assertTrue(away is None or away in dict(filling))
                    for longer in answers(hall, tuple([pair for pair in filling if pair[0] != away]), chest):
                        self.assertTrue(not slow_sound(hall, longer) or one.moves_from(longer) < left)

    def test_whole_fillings_where_m_is_greater(self):
        # They are no fillings of m chests, and what can be held by all chests is never barred.
        one = Keeper(FREE, 4)
        for whole in slow_wholes(FREE):
            self.is_same((one.moves_from(whole), one.next_look(whole), whole in one), (None, None, True))
            self.refuses(NotUsable("chest", "a"), one.things_for, whole, "a")
            self.refuses(NotUsable("filling", -1), Keeper(FREE, 3).things_for, whole, "a")

    def test_wrong_fillings(self):
        one = Keeper(ROW, 2)
        wrong = NO_FILLINGS[:-1] + ((("a", 0), ("b", 1)), (("a", 0), ("b", 0), ("c", 0)), (("b", 0), ("c", 2)), (("d", 0),))
        wrong = [value for value in wrong if value not in ((("c", 0),), (("a", 0),), (("b", 0),))]
        self.refuses_parameter(one.moves_from, {"filling": ()}, "filling", wrong, "filling")
        self.refuses_parameter(one.next_look, {"filling": ()}, "filling", wrong, "filling")
        full = [filling for filling in sound_ones(ROW, 2) if len(filling) == 2]
        self.refuses_parameter(one.things_for, {"filling": (), "chest": "a"}, "filling", list(wrong) + full, "filling")
        self.is_same([one.moves_from(filling) for filling in full], [None] * len(full))

    def test_wrong_chests(self):
        wrong = [value for value in ANY if value not in ("a", "b")] + ["c", "bb", ("b",), 0]
        self.refuses_parameter(Keeper(PAIR, 2).things_for, {"filling": (), "chest": "a"}, "chest", wrong, "chest", VALUE)
        wrong = [value for value in ANY if value != "b"] + ["a", "c"]
        good = {"filling": (("a", 0),), "chest": "b"}
        self.refuses_parameter(Keeper(PAIR, 2).things_for, good, "chest", wrong, "chest", VALUE)
        self.is_same(Keeper(PAIR, 2).things_for((("a", 0),), "b"), ())


class Operators(Case):
    def test_in(self):
        for hall, m in games():
            one, kept = Keeper(hall, m), slow_family(hall, m) or ()
            for filling in slow_fillings(hall):
                self.assertIs(filling in one, filling in kept)
        one = Keeper(ODD, 2)
        for value in ANY + ((("a", False),), (("a", True), ("b", True)), [("a", 0)], (("b", 0), ("a", 0)), (("d", 0),), one):
            self.assertIs(value in one, same(value, ()) or same(value, (("a", 0),)))
            self.assertIs(value in Keeper(PAIR, 2), False)

    def test_true_is_no_thing(self):
        one = Keeper(ODD, 2)
        self.assertIs((("a", 1),) in one, True)
        self.assertIs((("a", True),) in one, False)

    def test_len_and_iteration(self):
        for hall, m in games():
            one = Keeper(hall, m)
            self.is_same(len(one), len(slow_family(hall, m) or ()))
            self.is_same(list(one), list(slow_family(hall, m) or ()))

    def test_equal(self):
        halls = (PAIR, ODD, ROW, SPLIT)
        for hall in halls:
            for other in halls:
                for m in (1, 2, 3):
                    for n in (1, 2, 3, 5):
                        equal = hall == other and m == n
                        self.assertIs(Keeper(hall, m) == Keeper(other, n), equal)
                        self.assertIs(Keeper(hall, m) != Keeper(other, n), not equal)
        for value in ANY + (PAIR, family(PAIR, 1)):
            self.assertIs(Keeper(PAIR, 1) == value, False)

    def test_one_seal_more(self):
        for hall in (PAIR, ODD, ROW, FREE):
            for m in (1, 2, 9):
                for seal in (((hall[0][0],), ((0,),)), (hall[0][:2], ()), (hall[0], ((0,) * len(hall[0]),))):
                    one = Keeper(hall, m) + seal
                    self.assertIs(type(one), Keeper)
                    self.is_same((one.hall_now, one.m_now), (with_seal(hall, seal), m))
                    self.assertIs(one == Keeper(with_seal(hall, seal), m), True)
                    self.is_same(one.moves_now, slow_barred(with_seal(hall, seal), m).get(()))
        for value in NO_SEALS:
            self.refuses(NotUsable("seal", -1), Keeper(PAIR, 1).__add__, value)

    def test_with_m(self):
        for hall in (PAIR, ODD, LONG):
            for m in (1, 2, 3, 8):
                for one in (Keeper(hall, 2).with_m(m), Keeper(hall, 1).with_m(m=m)):
                    self.assertIs(type(one), Keeper)
                    self.is_same((one.hall_now, one.m_now, one.moves_now), (hall, m, moves(hall, m)))
        self.refuses_parameter(Keeper(PAIR, 1).with_m, {"m": 2}, "m", NO_MS, "m", VALUE)

    def test_a_keeper_never_changes(self):
        for hall, m in ((PAIR, 1), (PAIR, 2), (ODD, 2), (LONG, 2)):
            one = Keeper(hall, m)
            before = (one.hall_now, one.m_now, one.family_now, one.moves_now, list(one))
            for filling in sound_ones(hall, m - 1):
                self.assertLessEqual(len(one.things_for(filling, lacking(hall, filling)[0])), 2)
                self.assertIsInstance(one.next_look(filling), (tuple, type(None)))
            self.assertIsInstance(one + ((hall[0][0],), ((0,),)), Keeper)
            self.assertIsInstance(one.with_m(1), Keeper)
            list(one).append(None)
            for name in ("hall_now", "m_now", "family_now", "moves_now"):
                with self.assertRaises(AttributeError):
                    setattr(one, name, None)
            self.is_same((one.hall_now, one.m_now, one.family_now, one.moves_now, list(one)), before)


class Consequences(Case):
    def test_a_keeper_who_says_what_things_for_tells_is_never_caught(self):
        for hall, m in games():
            one, draw = Keeper(hall, m), Draw(m)
            if one.moves_now is None:
                filling = ()
                for _ in range(40):
                    self.assertTrue(slow_sound(hall, filling))
                    if len(filling) == min(m, len(hall[0])) or (filling and draw.below(3) == 0):
                        gone = filling[draw.below(len(filling))]
                        filling = tuple([pair for pair in filling if pair != gone])
                    chest = lacking(hall, filling)[draw.below(len(lacking(hall, filling)))]
                    things = one.things_for(filling, chest)
                    self.assertGreater(len(things), 0)
                    filling = answers(hall, filling, chest)[things[draw.below(len(things))]]

    def test_each_filling_of_the_family_has_a_thing_for_each_chest(self):
        for hall, m in games():
            one = Keeper(hall, m)
            for filling in one:
                if len(filling) < m:
                    self.assertTrue(all([one.things_for(filling, chest) for chest in lacking(hall, filling)]))

    def test_an_opener_by_next_look_catches_each_keeper(self):
        for hall, m in games():
            one = Keeper(hall, m)
            if one.moves_now is not None:
                self.assertEqual(self.longest(one, ()), one.moves_now)

    def longest(self, one, filling):
        """The most looks that an opener needs, whatever the keeper says."""
        away, chest = one.next_look(filling)
        self.assertTrue(away is None or len(filling) == one.m_now)
        left = tuple([pair for pair in filling if pair[0] != away])
        after = [longer for longer in answers(one.hall_now, left, chest) if slow_sound(one.hall_now, longer)]
        return 1 + max([self.longest(one, longer) for longer in after], default=0)

    def test_numbers_go_by_the_family(self):
        for hall, m in games():
            one = Keeper(hall, m)
            for filling in sound_ones(hall, m):
                told = one.moves_from(filling)
                self.assertEqual(told is None, filling in one)
                if one.moves_now is not None:
                    self.assertTrue(1 <= told <= one.moves_now)
            self.assertEqual(one.family_now == (), one.moves_now is not None)

    def test_shutting_does_not_help(self):
        for hall, m in games():
            one = Keeper(hall, m)
            for filling in sound_ones(hall, m - 1):
                for gone in filling:
                    part = tuple([pair for pair in filling if pair != gone])
                    if one.moves_from(part) is not None:
                        self.assertLessEqual(one.moves_from(filling), one.moves_from(part))

    def test_great_halls(self):
        for hall in GREAT:
            for m in (1, 2, 3):
                one = Keeper(hall, m)
                self.is_same(one.moves_now, moves(hall, m))
                self.assertEqual(len(one) > 0, one.moves_now is None)
                if one.moves_now is not None:
                    self.assertEqual(len(one.next_look(())), 2)


if __name__ == "__main__":
    unittest.main()
