"""[16]: hall_text, chests_words."""

import unittest

from keptopen.halltexts import chests_words, hall_text
from support import ALONE, ANY, DRAWN, HALLS, LINE, MANY, NO_HALLS, SPLIT, Case


class HallText(Case):
    def test_texts(self):
        self.is_same(hall_text(ALONE), "chest a 1")
        self.is_same(
            hall_text(LINE), "chest a 2\nchest b 3\nchest c 1\nseal a,b,c 0,2,0 1,0,0\nseal b\nseal b 0 2"
        )
        self.is_same(hall_text(hall=SPLIT), "chest a 1\nchest b 2\nseal b 0\nseal b 1\nseal b 0")
        great = "1" + "0" * 40
        rows = f"3 {'9' * 40}\nseal a,b 3,5 3,{great[:-1]}"
        self.is_same(hall_text(MANY), f"chest a {great}\nchest b {great}\nseal a {rows}")

    def test_lines_of_all_halls(self):
        for hall in HALLS + DRAWN:
            lines = [" ".join(["chest", chest, str(size)]) for chest, size in zip(*hall[:2])]
            for lot, rows in hall[2]:
                words = [",".join(map(str, row)) for row in rows]
                lines.append(" ".join(["seal", ",".join(lot)] + words))
            self.is_same(hall_text(hall), "\n".join(lines))

    def test_wrong_halls(self):
        self.refuses_parameter(hall_text, {"hall": ALONE}, "hall", NO_HALLS, "hall")


class ChestsWords(Case):
    def test_words(self):
        self.is_same(chests_words(()), "-")
        self.is_same(chests_words(("a",)), "a")
        self.is_same(chests_words(chests=("a", "abcdefgh", "b", "zz")), "a abcdefgh b zz")

    def test_wrong_chests(self):
        right = ((), ("a",), ("a", "b"))
        wrong = [value for value in ANY if not (type(value) is tuple and value in right)]
        wrong += [("b", "a"), ("a", "a"), ("A",), ("",), (1,), ["a"], "a b", ("abcdefghi",), ("a", None)]
        self.refuses_parameter(chests_words, {"chests": ("a",)}, "chests", wrong, "chests")


if __name__ == "__main__":
    unittest.main()
