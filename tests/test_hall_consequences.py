"""[20]: what follows for halls, and of which kinds the results are."""

import unittest

from keptopen.hallchanges import renamed, with_seal, without_seal
from keptopen.hallparts import gates_of, seals_of
from keptopen.hallreadings import chests_read, hall_read
from keptopen.halltexts import chests_words, hall_text
from support import DRAWN, HALLS, TIGHT, Case

ALL = HALLS + DRAWN + TIGHT


class Consequences(Case):
    def test_seals_of_has_the_seals_whose_lot_has_the_chest(self):
        for hall in ALL:
            for chest in hall[0]:
                for index, (lot, _) in enumerate(hall[2]):
                    self.assertEqual(index in seals_of(hall, chest), chest in lot)

    def test_gates_are_seals_of_both(self):
        for hall in ALL:
            for one in hall[0]:
                for other in hall[0]:
                    both = set(seals_of(hall, one)) & set(seals_of(hall, other))
                    self.assertEqual((one, other) in gates_of(hall), one < other and len(both) > 0)

    def test_without_seal_takes_with_seal_back(self):
        for hall in ALL:
            for seal in ((hall[0][-1:], ()), (hall[0][:3], ((0,) * len(hall[0][:3]),))):
                self.is_same(without_seal(with_seal(hall, seal), len(hall[2])), hall)

    def test_renaming_back(self):
        for hall in ALL:
            names = [chest + "x" for chest in hall[0]][::-1]
            there, back = list(zip(hall[0], names)), list(zip(names, hall[0]))
            self.is_same(renamed(renamed(hall, *there), *back), hall)

    def test_reading_and_writing(self):
        for hall in ALL:
            self.is_same(hall_read(hall_text(hall)), hall)
            self.is_same(hall_text(hall_read(hall_text(hall))), hall_text(hall))
            self.is_same(chests_read(chests_words(hall[0])), hall[0])
        for text in ("-", "a", "b c d", "aa ab"):
            self.is_same(chests_words(chests_read(text)), text)


if __name__ == "__main__":
    unittest.main()
