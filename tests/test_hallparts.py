"""[13]: size_of, seals_of, gates_of."""

import unittest

from keptopen.hallparts import gates_of, seals_of, size_of
from support import ALONE, ANY, DRAWN, FREE, HALLS, LINE, MANY, NO_HALLS, PAIR, SPLIT, VALUE, Case


class HallParts(Case):
    def test_size_of(self):
        for hall in HALLS + DRAWN + (MANY,):
            for chest, size in zip(hall[0], hall[1]):
                self.is_same(size_of(hall, chest), size)
                self.is_same(size_of(chest=chest, hall=hall), size)

    def test_seals_of(self):
        self.is_same(seals_of(LINE, "a"), (0,))
        self.is_same(seals_of(LINE, "c"), (0,))
        self.is_same(seals_of(SPLIT, "b"), (0, 1, 2))
        self.is_same(seals_of(SPLIT, "a"), ())
        self.is_same(seals_of(ALONE, "a"), ())
        for hall in HALLS + DRAWN:
            for chest in hall[0]:
                self.is_same(seals_of(hall, chest), tuple([k for k in range(len(hall[2])) if chest in hall[2][k][0]]))
                self.is_same(seals_of(chest=chest, hall=hall), seals_of(hall, chest))

    def test_gates_of(self):
        self.is_same(gates_of(FREE), ())
        self.is_same(gates_of(SPLIT), ())
        hall = (("a", "b", "c", "d"), (1,) * 4, ((("c", "d"), ()), (("a", "d"), ()), (("c", "d"), ()), (("a", "b", "c"), ())))
        self.is_same(gates_of(hall), (("a", "b"), ("a", "c"), ("a", "d"), ("b", "c"), ("c", "d")))
        for hall in HALLS + DRAWN:
            gates = {(one, other) for lot, _ in hall[2] for one in lot for other in lot if one < other}
            self.is_same(gates_of(hall), tuple(sorted(gates)))
            self.is_same(gates_of(hall=hall), tuple(sorted(gates)))

    def test_wrong_values(self):
        self.refuses_parameter(gates_of, {"hall": PAIR}, "hall", NO_HALLS, "hall")
        for call in (size_of, seals_of):
            good = {"hall": PAIR, "chest": "a"}
            self.refuses_parameter(call, good, "hall", NO_HALLS, "hall")
            no_chests = [value for value in ANY if value not in ("a", "b")] + ["ab", "aa", "c"]
            self.refuses_parameter(call, good, "chest", no_chests, "chest", VALUE)


if __name__ == "__main__":
    unittest.main()
