"""[14] and [15]: with_seal, without_seal, renamed."""

import itertools
import unittest

from keptopen.errors import NotUsable
from keptopen.hallchanges import renamed, with_seal, without_seal
from keptopen.hallchecker import lets_hall
from support import ALONE, ANY, DRAWN, HALLS, LINE, MANY, NO_HALLS, PAIR, VALUE, Case

# What is no seal of PAIR.
NO_SEALS = tuple([value for value in ANY if value != (("a",), ())]) + (
    (("c",), ()), (("a", "c"), ()), (("b", "a"), ()), (("a", "a"), ()), ((), ()), (["a"], ()), (("a",), []), [("a",), ()],
    (("a",), (), ()), (("a",), ((2,),)), (("a",), ((True,),)), (("a",), ((0,), (0,))), (("a",), ((1,), (0,))),
    (("a",), ((0, 0),)), (("a",), ([0],)), (("a", "b"), ((0, 2),)), (("a", "b"), ((0,),)), (("a",), (0,)),
)


def slow_renamed(hall, names):
    """The hall by new names, a dict, straight from [15]."""
    chests = sorted(names[chest] for chest in hall[0])
    old = {names[chest]: chest for chest in hall[0]}
    seals = []
    for lot, rows in hall[2]:
        held = sorted(tuple(sorted((names[chest], thing) for chest, thing in zip(lot, row))) for row in rows)
        new = tuple(sorted(names[chest] for chest in lot))
        seals.append((new, tuple([tuple([thing for _, thing in row]) for row in held])))
    return (tuple(chests), tuple([hall[1][hall[0].index(old[chest])] for chest in chests]), tuple(seals))


class WithSeal(Case):
    def test_the_seal_is_the_last_one(self):
        for seal in ((("a",), ()), (("a", "b"), ((0, 1),)), PAIR[2][0], (("b",), ((0,), (1,)))):
            self.is_same(with_seal(PAIR, seal), PAIR[:2] + (PAIR[2] + (seal,),))
            self.is_same(with_seal(seal=seal, hall=PAIR), PAIR[:2] + (PAIR[2] + (seal,),))
        self.is_same(with_seal(ALONE, (("a",), ((0,),))), (("a",), (1,), ((("a",), ((0,),)),)))
        seal = (("a", "b"), ((10**39, 10**40 - 1),))
        self.is_same(with_seal(MANY, seal), MANY[:2] + (MANY[2] + (seal,),))
        seal = (("a", "b", "c"), ((0, 0, 0), (0, 2, 0)))
        self.is_same(with_seal(LINE, seal)[2][3], seal)

    def test_wrong_values(self):
        good = {"hall": PAIR, "seal": (("a",), ())}
        self.refuses_parameter(with_seal, good, "hall", NO_HALLS, "hall")
        self.refuses_parameter(with_seal, good, "seal", NO_SEALS, "seal")
        four = (("a", "b", "c", "d"), (1,) * 4, ())
        self.refuses(NotUsable("seal", -1), with_seal, four, (("a", "b", "c", "d"), ()))


class WithoutSeal(Case):
    def test_all_else_remains(self):
        self.is_same(without_seal(PAIR, 1), PAIR[:2] + ((PAIR[2][0], PAIR[2][2]),))
        for hall in HALLS + DRAWN:
            for index in range(len(hall[2])):
                left = tuple([seal for k, seal in enumerate(hall[2]) if k != index])
                self.is_same(without_seal(hall, index), hall[:2] + (left,))
                self.is_same(without_seal(index=index, hall=hall), hall[:2] + (left,))

    def test_wrong_values(self):
        good = {"hall": PAIR, "index": 0}
        self.refuses_parameter(without_seal, good, "hall", NO_HALLS, "hall")
        wrong = [value for value in ANY if type(value) is not int] + [-1, -2, -3, 3, 4, 10**59]
        self.refuses_parameter(without_seal, good, "index", wrong, "index", VALUE)
        self.refuses(NotUsable("index", 0), without_seal, ALONE, 0)


class Renamed(Case):
    def test_no_pairs(self):
        for hall in HALLS + DRAWN:
            self.is_same(renamed(hall), hall)
            self.is_same(renamed(hall, *[(chest, chest) for chest in hall[0]]), hall)

    def test_one_chest(self):
        self.is_same(
            renamed(LINE, ("b", "z")),
            (("a", "c", "z"), (2, 1, 3), ((("a", "c", "z"), ((0, 0, 2), (1, 0, 0))), (("z",), ()), (("z",), ((0,), (2,))))),
        )
        self.is_same(renamed(ALONE, ("a", "abcdefgh")), (("abcdefgh",), (1,), ()))

    def test_rows_ascend_anew(self):
        hall = (("a", "b"), (2, 3), ((("a", "b"), ((0, 1), (0, 2), (1, 0))),))
        self.is_same(renamed(hall, ("a", "c")), (("b", "c"), (3, 2), ((("b", "c"), ((0, 1), (1, 0), (2, 0))),)))

    def test_chests_exchange_their_names(self):
        for hall in HALLS + DRAWN:
            for names in itertools.islice(itertools.permutations(hall[0]), 24):
                pairs = list(zip(hall[0], names))
                new = renamed(hall, *pairs)
                self.is_same(new, slow_renamed(hall, dict(pairs)))
                self.is_same(lets_hall(new), len(hall[2]))
                self.is_same(renamed(hall, *reversed(pairs)), new)
                self.is_same(renamed(new, *[(name, chest) for chest, name in pairs]), hall)

    def test_new_names(self):
        for hall in HALLS + DRAWN:
            names = {chest: chest for chest in hall[0]}
            names[hall[0][0]] = "m" + hall[0][0]
            names[hall[0][-1]] = "aa"
            told = [(chest, name) for chest, name in names.items() if chest != name]
            self.is_same(renamed(hall, *told), slow_renamed(hall, names))

    def test_wrong_halls(self):
        self.refuses_parameter(renamed, {"hall": PAIR}, "hall", NO_HALLS, "hall")
        self.refuses(NotUsable("hall", -1), renamed, None, None)

    def test_wrong_pairs(self):
        wrong = ANY + (("c", "d"), ("a", "A"), ("a", ""), ("a", 1), ("a", True), ("a", None), ("a", ("b",)), ("a", ["b"]))
        wrong = wrong + (("a", "abcdefghi"), ["a", "d"], ("a", "d", "e"), ("a",), (["a"], "d"), (("a",), "d"), (1, "d"))
        for pair in wrong:
            # These are pairs of a chest and a name.
            if pair not in (("a", "b"), ("b", "a"), ("a", "a")):
                self.refuses(NotUsable("pairs", 0), renamed, PAIR, pair)
                self.refuses(NotUsable("pairs", 1), renamed, PAIR, ("b", "c"), pair, pair)
                self.refuses(NotUsable("pairs", 0), renamed, PAIR, pair, ("b", "a"))
        self.refuses(NotUsable("pairs", 1), renamed, PAIR, ("a", "c"), ("a", "d"))
        self.refuses(NotUsable("pairs", 1), renamed, PAIR, ("a", "c"), ("a", "c"), None)
        self.refuses(NotUsable("pairs", 2), renamed, PAIR, ("a", "b"), ("b", "b"), ("a", "a"))

    def test_two_chests_called_alike(self):
        self.refuses(NotUsable("pairs", -1), renamed, PAIR, ("a", "b"))
        self.refuses(NotUsable("pairs", -1), renamed, PAIR, ("a", "c"), ("b", "c"))
        self.refuses(NotUsable("pairs", -1), renamed, LINE, ("a", "b"), ("b", "c"))
        self.is_same(renamed(LINE, ("a", "b"), ("b", "c"), ("c", "a"))[1], (1, 2, 3))


if __name__ == "__main__":
    unittest.main()
