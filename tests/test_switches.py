"""[72] and [73]: class Switches."""

import unittest

from keptopen.errors import InvalidPaper, NotUsable
from keptopen.hiding import switched_family
from keptopen.oddparts import least_switched, odd_parts
from keptopen.settingchecker import lets_settings
from keptopen.settingpapers import settings_paper
from keptopen.settings import many_settings, some_settings, turned_along
from keptopen.switched import switched_hall
from keptopen.switches import Switches
from support import ANY, DOT, DOTS, EIGHT, FOUR, NO_LOTS, NO_TWO_BITS, NO_WEBS, RING, STAR, SWITCHED, TWO, VALUE, WAY, Case, Draw
from support import all_lots, same, slow_odds, slow_right, some_odds
from test_hiding import ALONE, NO_SETS, slow_switched_family
from test_plays import NO_MS
from test_settings import some_bits, some_way
from test_switched import FULLEST

METHODS = (
    "__init__", "web_now", "odds_now", "hall_made", "parts_odd", "least_m", "many_bits", "__getitem__", "__call__", "__contains__",
    "__len__", "__iter__", "__eq__", "__add__", "moved", "solved", "paper", "judged", "kept_for",
)
NO_WAYS = tuple([value for value in ANY if not (type(value) is tuple and value in (("a",), ("a", "b"), ("b", "a")))])
NO_WAYS += (("a", "c"), ("a", "a"), ("a", "b", "d"), ["a", "b"], ("a", "b", "c", "a"), (("a", "b"),), "ab", ("b", None))


class Elsewhere(Switches):
    """Switches of a class of its own."""


class SwitchesCase(Case):
    def is_switches(self, one, web, odds):
        """The object is a Switches of just this web and these odds."""
        self.assertIs(type(one), Switches)
        self.is_same((one.web_now, one.odds_now), (web, odds))


class Making(SwitchesCase):
    def test_right_values(self):
        for seed, web in enumerate(SWITCHED):
            for odds in some_odds(web, seed, 2):
                self.is_switches(Switches(web, odds), web, odds)
                self.is_switches(Switches(odds=odds, web=web), web, odds)

    def test_wrong_values(self):
        for made in (Switches, Elsewhere):
            self.refuses_parameter(made, {"web": WAY, "odds": ()}, "web", NO_WEBS, "web")
            self.refuses_parameter(made, {"web": WAY, "odds": ()}, "odds", NO_LOTS, "odds")

    def test_each_method_is_defined_in_the_class(self):
        for name in METHODS:
            self.assertIn(name, vars(Switches))

    def test_it_never_changes(self):
        one = Switches(RING, ("a",))
        calls = (
            one.hall_made, one.parts_odd, one.least_m, one.many_bits, one.solved, one.paper, lambda: one + "b", lambda: one["a"],
            lambda: one((0, 0, 0)), lambda: one.moved(("a", "b")), lambda: one.judged(one.paper()), lambda: one.kept_for(2, ALONE),
            lambda: list(one).append("b"), lambda: "b" in one,
        )
        for call in calls:
            call()
            self.is_switches(one, RING, ("a",))
        for name in ("web_now", "odds_now"):
            with self.assertRaises(AttributeError):
                setattr(one, name, ())


class Asking(SwitchesCase):
    def test_what_functions_tell(self):
        for seed, web in enumerate(SWITCHED + (FULLEST,)):
            for odds in some_odds(web, seed, 2):
                for one in (Switches(web, odds), Elsewhere(web, odds)):
                    self.is_same(one.hall_made(), switched_hall(web, odds))
                    self.is_same((one.parts_odd(), one.least_m()), (odd_parts(web, odds), least_switched(web, odds)))
                    self.is_same((one.many_bits(), one.solved()), (many_settings(web, odds), some_settings(web, odds)))
                    self.is_same(one.paper(), settings_paper(web, odds))
                    self.is_same(one.judged(one.paper()), one.parts_odd() == ())
                    self.is_same(one.judged(thing=one.paper()), one.parts_odd() == ())

    def test_judged_refuses_papers(self):
        papers = ANY + (("set", (1, 1, 0)), ("set", (1,)), ("set", (1, 0, True)), ("sum", ("a", "b", "c")), ("sum", ("a",)))
        for odds in (("a", "b"), (), ("c",)):
            for paper in papers:
                with self.assertRaises(InvalidPaper) as right:
                    if not same(lets_settings(RING, odds, paper), None):
                        raise InvalidPaper("accepted", paper)
                if right.exception.word == "accepted":
                    self.is_same(Switches(RING, odds).judged(paper), lets_settings(RING, odds, paper))
                else:
                    self.refuses(right.exception, Switches(RING, odds).judged, paper)

    def test_settings_of_a_chest(self):
        for seed, web in enumerate(SWITCHED):
            for odds in some_odds(web, seed, 1):
                for chest in web[0]:
                    self.is_same(Switches(web, odds)[chest], tuple(slow_right(web, odds, chest)))
        self.is_same(Switches(DOTS, ("a",))["a"], ((),))
        for value in [value for value in ANY if value not in ("a", "b")] + ["d", ("a",), 0, -1]:
            self.refuses(NotUsable("chest", value), Switches(WAY, ()).__getitem__, value)

    def test_chests_by_bits(self):
        for seed, web in enumerate(SWITCHED):
            for odds in some_odds(web, seed, 2):
                one = Switches(web, odds)
                for bits in some_bits(web, seed, 2):
                    unlike = tuple(sorted(set(odds) ^ set(slow_odds(web, bits))))
                    self.is_same(one(bits), unlike)
                    self.is_same(one(bits=bits), unlike)
        self.is_same(Switches(DOTS, ("c",))(()), ("c",))
        self.refuses_parameter(Switches(WAY, ("a",)), {"bits": (0, 1)}, "bits", NO_TWO_BITS, "bits")

    def test_in_len_and_iteration(self):
        for seed, web in enumerate(SWITCHED):
            for odds in some_odds(web, seed, 2):
                one = Switches(web, odds)
                self.is_same((len(one), list(one)), (len(odds), list(odds)))
                for chest in web[0] + ("zz",):
                    self.assertIs(chest in one, chest in odds)
        for value in ANY:
            self.assertIs(value in Switches(RING, ("a", "c")), same(value, "a"))
        self.assertIs(Switches(RING, ()) in Switches(RING, ("a",)), False)

    def test_equal(self):
        made = ((RING, ()), (RING, ("a",)), (RING, ("b",)), (WAY, ()), (WAY, ("a",)), (DOT, ()), (DOT, ("a",)), (RING, ("a", "b")))
        for one in made:
            for other in made:
                for kinds in ((Switches, Switches), (Switches, Elsewhere), (Elsewhere, Switches)):
                    self.assertIs(kinds[0](*one) == kinds[1](*other), one == other)
                    self.assertIs(kinds[0](*one) != kinds[1](*other), one != other)
            for value in ANY + (one, one[0], one[1]):
                self.assertIs(Switches(*one) == value, False)


class Changing(SwitchesCase):
    def test_a_chest_turned(self):
        for seed, web in enumerate(SWITCHED):
            for odds in some_odds(web, seed, 2):
                for chest in web[0]:
                    turned = tuple(sorted(set(odds) ^ {chest}))
                    for made in (Switches, Elsewhere):
                        self.is_switches(made(web, odds) + chest, web, turned)
                    self.is_switches(Switches(web, odds) + chest + chest, web, odds)
        for value in [value for value in ANY if value not in ("a", "b")] + ["d", ("a",), 0]:
            self.refuses(NotUsable("chest", value), Switches(WAY, ("a",)).__add__, value)

    def test_moved_along_ways(self):
        for seed, web in enumerate(SWITCHED):
            draw = Draw(seed)
            for odds in some_odds(web, seed, 2):
                one = Switches(web, odds)
                for long in (1, 2, 3, 8):
                    way = some_way(web, draw, long)
                    turned = set(odds) ^ {way[0]} ^ {way[-1]}
                    self.is_switches(one.moved(way), web, tuple(sorted(turned)))
                    self.is_switches(one.moved(way=way), web, tuple(sorted(turned)))
                    # What solves the one solves the other, turned along the way.
                    if one.solved() is not None:
                        told = turned_along(web, one.solved(), way)
                        self.is_same(one.moved(way)(told), ())
        self.is_switches(Switches(RING, ("a",)).moved(("a",)), RING, ("a",))
        self.is_switches(Switches(RING, ()).moved(("a", "b", "c", "a")), RING, ())
        self.is_switches(Switches(RING, ()).moved(("c", "a")), RING, ("a", "c"))
        self.is_switches(Elsewhere(RING, ("c",)).moved(("c", "a")), RING, ("a",))

    def test_wrong_ways(self):
        self.refuses_parameter(Switches(WAY, ("a",)).moved, {"way": ("a", "b")}, "way", NO_WAYS, "way")

    def test_families(self):
        told = ((RING, "a", 1, ALONE), (RING, "c", 2, ALONE), (WAY, "b", 1, (("a",), ("b",))), (TWO, "y", 1, (("y",), ("z",))))
        for web, odd, m, lots in told:
            one = Switches(web, (odd,))
            self.is_same(one.kept_for(m, lots), slow_switched_family(web, odd, m, lots))
            self.is_same(one.kept_for(lots=lots, m=m), switched_family(web, odd, m, lots))

    def test_families_of_other_odds(self):
        for web in (RING, FOUR, EIGHT, STAR, DOTS):
            for odds in all_lots(web[0]):
                if len(odds) != 1:
                    # Ahead of all else.
                    for m, lots in ((2, ALONE), (0, ALONE), (None, None), (True, ())):
                        self.refuses(NotUsable("odds", -1), Switches(web, odds).kept_for, m, lots)

    def test_wrong_families(self):
        good = {"m": 2, "lots": ALONE}
        self.refuses_parameter(Switches(RING, ("a",)).kept_for, good, "m", NO_MS, "m", VALUE)
        wrong = NO_SETS + (ALONE[:2], ALONE[1:], ALONE[::-1], (("a", "b", "c"),))
        self.refuses_parameter(Switches(RING, ("a",)).kept_for, good, "lots", wrong, "lots")
        self.refuses(NotUsable("lots", -1), Switches(RING, ("a",)).kept_for, 3, ALONE)
        self.refuses(NotUsable("lots", -1), Switches(TWO, ("y",)).kept_for, 2, ALONE)


if __name__ == "__main__":
    unittest.main()
