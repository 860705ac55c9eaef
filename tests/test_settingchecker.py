"""[69], [70] and [73]: settings_paper, lets_settings."""

import unittest

from keptopen.errors import InvalidPaper
from keptopen.oddparts import odd_parts
from keptopen.settingchecker import lets_settings
from keptopen.settingpapers import settings_paper
from support import ANY, DOT, DOTS, FOUR, NO_LOTS, NO_WEBS, RING, SWITCHED, TWO, WAY, Case, Draw, all_lots, same, slow_all_bits
from support import slow_odds, slow_pieces, slow_solutions, slow_switched, slow_wholes, some_odds
from test_switched import FULLEST, SMALL


class Papers(Case):
    def test_each_paper_is_accepted(self):
        kinds = set()
        for seed, web in enumerate(SWITCHED + (FULLEST,)):
            for odds in some_odds(web, seed):
                paper = settings_paper(web, odds)
                self.is_same(settings_paper(odds=odds, web=web), paper)
                kinds.add(paper[0])
                self.assertEqual((type(paper), len(paper), type(paper[1])), (tuple, 2, tuple))
                right = odd_parts(web, odds) == ()
                self.is_same(paper[0], "set" if right else "sum")
                self.is_same(lets_settings(web, odds, paper), right)
                self.is_same(lets_settings(thing=paper, odds=odds, web=web), right)
        self.assertEqual(kinds, {"set", "sum"})

    def test_it_tells_whether_the_switched_hall_can_be_kept(self):
        for web in SMALL:
            for odds in all_lots(web[0]):
                self.is_same(lets_settings(web, odds, settings_paper(web, odds)), bool(slow_wholes(slow_switched(web, odds))))

    def test_webs_without_gates(self):
        self.is_same((settings_paper(DOT, ()), settings_paper(DOT, ("a",))), (("set", ()), ("sum", ("a",))))
        self.is_same(lets_settings(DOTS, (), ("set", ())), True)
        self.is_same(lets_settings(DOTS, ("b", "c"), ("sum", ("c",))), False)
        self.refuses(InvalidPaper("even", -1), lets_settings, DOTS, ("b", "c"), ("sum", ("a",)))
        self.refuses(InvalidPaper("chest", "b"), lets_settings, DOTS, ("b", "c"), ("set", ()))
        self.refuses(InvalidPaper("many", -1), lets_settings, DOTS, (), ("set", (0,)))

    def test_wrong_values(self):
        self.refuses_parameter(settings_paper, {"web": WAY, "odds": ()}, "web", NO_WEBS, "web")
        self.refuses_parameter(settings_paper, {"web": WAY, "odds": ()}, "odds", NO_LOTS, "odds")


class Set(Case):
    def test_all_bits(self):
        for web in SMALL + (FOUR,):
            for odds in all_lots(web[0])[::2]:
                for bits in slow_all_bits(len(web[1])):
                    unlike = sorted(set(odds) ^ set(slow_odds(web, bits)))
                    if unlike:
                        self.refuses(InvalidPaper("chest", unlike[0]), lets_settings, web, odds, ("set", bits))
                    else:
                        self.is_same(lets_settings(web, odds, ("set", bits)), True)

    def test_all_that_have_the_odds_are_accepted(self):
        web = FULLEST
        for bits in slow_solutions(web)[("a", "f")]:
            self.is_same(lets_settings(web, ("a", "f"), ("set", bits)), True)

    def test_many(self):
        for bits in ((), (0,), (1, 0), (1, 0, 0, 0), (None,), (2, 2, 2, 2), tuple(range(5000))):
            self.refuses(InvalidPaper("many", -1), lets_settings, RING, ("a", "b"), ("set", bits))

    def test_bits(self):
        for k in range(3):
            for wrong in [value for value in ANY if not (type(value) is int and value in (0, 1))]:
                bits = (1, 0, 0)[:k] + (wrong,) + (1, 0, 0)[k + 1 :]
                self.refuses(InvalidPaper("bit", k), lets_settings, RING, ("a", "b"), ("set", bits))
                # The first one counts, ahead of all chests.
                self.refuses(InvalidPaper("bit", k), lets_settings, RING, ("c",), ("set", bits[: k + 1] + (None,) * (2 - k)))
        self.refuses(InvalidPaper("bit", 1), lets_settings, RING, ("a", "b"), ("set", (1, False, True)))

    def test_the_first_chest_counts(self):
        self.refuses(InvalidPaper("chest", "a"), lets_settings, RING, (), ("set", (1, 0, 0)))
        self.refuses(InvalidPaper("chest", "b"), lets_settings, RING, ("a",), ("set", (1, 0, 0)))
        self.refuses(InvalidPaper("chest", "a"), lets_settings, RING, ("b", "c"), ("set", (1, 0, 0)))
        self.refuses(InvalidPaper("chest", "c"), lets_settings, RING, ("a", "b", "c"), ("set", (1, 0, 0)))


class Sum(Case):
    def test_all_lots(self):
        for web in SMALL + (TWO, DOTS):
            for odds in all_lots(web[0])[::3]:
                for lot in all_lots(web[0]):
                    paper = ("sum", lot)
                    if lot not in slow_pieces(web, ()):
                        self.refuses(InvalidPaper("part", -1), lets_settings, web, odds, paper)
                    elif len(set(lot) & set(odds)) % 2:
                        self.is_same(lets_settings(web, odds, paper), False)
                    else:
                        self.refuses(InvalidPaper("even", -1), lets_settings, web, odds, paper)

    def test_no_parts(self):
        wrong = (
            (), ("c", "b", "a"), ("a", "b", "c", "c"), ("a", "b"), ("a", "b", "c", "y", "z"), (("a", "b", "c"),), (None,), (1, 2),
            ("y",), ("a", "b", "d"), ("abc",), (["a"],), tuple(range(5000)),
        )
        for part in wrong:
            self.refuses(InvalidPaper("part", -1), lets_settings, TWO, ("a", "y"), ("sum", part))
        self.is_same(lets_settings(TWO, ("a", "y"), ("sum", ("y", "z"))), False)
        self.refuses(InvalidPaper("even", -1), lets_settings, TWO, ("a",), ("sum", ("y", "z")))


class Wrong(Case):
    def test_shapes(self):
        wrong = ANY + (
            ("set",), ("sum",), ("set", [1, 0, 0]), ("sum", ["a", "b", "c"]), ("set", None), ("sum", "abc"), ("sets", (1, 0, 0)),
            ["set", (1, 0, 0)], ("set", (1, 0, 0), ()), ("set", 1, 0, 0), (True, (1, 0, 0)), (("set",), (1, 0, 0)), ("", ()),
        )
        for value in wrong:
            self.refuses(InvalidPaper("shape", -1), lets_settings, RING, ("a", "b"), value)

    def test_two_faults(self):
        draw, words = Draw(1), set()
        for _ in range(600):
            bits = tuple([(0, 1, 0, 1, 0, 1, True, 2)[draw.below(8)] for _ in range(2 + draw.below(3))])
            odds = draw.some_of(("a", "b", "c"), 50)
            fault = self.slow_set_fault(odds, bits)
            words.add(fault and fault[0])
            if fault is None:
                self.is_same(lets_settings(RING, odds, ("set", bits)), True)
            else:
                self.refuses(InvalidPaper(*fault), lets_settings, RING, odds, ("set", bits))
        self.assertEqual(words, {None, "many", "bit", "chest"})

    def slow_set_fault(self, odds, bits):
        """The first fault of bits for RING, from the words of [70]."""
        if len(bits) != 3:
            return ("many", -1)
        for k, bit in enumerate(bits):
            if not same(bit, 0) and not same(bit, 1):
                return ("bit", k)
        for chest in RING[0]:
            if (chest in odds) != (chest in slow_odds(RING, bits)):
                return ("chest", chest)
        return None

    def test_wrong_parameters(self):
        good = {"web": WAY, "odds": (), "thing": ("set", (0, 0))}
        self.refuses_parameter(lets_settings, good, "web", NO_WEBS, "web")
        self.refuses_parameter(lets_settings, good, "odds", NO_LOTS, "odds")


if __name__ == "__main__":
    unittest.main()
