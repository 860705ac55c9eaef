"""[17] and [18]: hall_read, chests_read."""

import unittest

from keptopen.errors import InvalidText
from keptopen.hallreadings import chests_read, hall_read
from keptopen.halltexts import chests_words, hall_text
from support import ALONE, ANY, DRAWN, HALLS, LINE, MANY, PAIR, TIGHT, Case

HEAD = "chest a 2\nchest b 3\nchest c 1"
SIXTY = "9" * 60


class HallRead(Case):
    def wrong(self, text, line, field):
        with self.subTest(text=text):
            self.refuses(InvalidText(line, field), hall_read, text)
            self.refuses(InvalidText(line, field), hall_read, text=text)

    def test_there_and_back(self):
        for hall in HALLS + DRAWN + TIGHT + (MANY,):
            self.is_same(hall_read(hall_text(hall)), hall)
            self.is_same(hall_read(text=hall_text(hall)), hall)
            self.is_same(hall_text(hall_read(hall_text(hall))), hall_text(hall))

    def test_right_texts(self):
        self.is_same(hall_read("chest a 1"), ALONE)
        self.is_same(hall_read(HEAD), LINE[:2] + ((),))
        self.is_same(hall_read(HEAD + "\nseal b"), LINE[:2] + (((("b",), ()),),))
        self.is_same(hall_read("chest chest 1\nchest seal 2\nseal chest,seal 0,0 0,1")[2][0][0], ("chest", "seal"))
        self.is_same(hall_read("chest abcdefgh 10")[1], (10,))

    def test_no_strings(self):
        wrong = [value for value in ANY if not isinstance(value, str)] + [["chest a 1"], ("chest a 1",)]
        self.refuses_parameter(hall_read, {"text": "chest a 1"}, "text", wrong, "text")

    def test_first_words(self):
        for word in ("", " ", "Chest", "chests", "seals", "a", "0", "chest,", "-", "chest\n"):
            self.wrong(word, 0, 1 if word == "chest\n" else 0)
            if "\n" not in word:
                self.wrong(word + " a 2", 0, 0)
                self.wrong(HEAD + "\n" + word, 3, 0)
                self.wrong(HEAD + "\nseal a\n" + word, 4, 0)
        self.wrong("seal a", 0, 0)
        self.wrong("seal", 0, 0)
        self.wrong(" chest a 2", 0, 0)
        self.wrong(HEAD + "\nseal a\nchest d 1", 4, 0)
        self.wrong("\n" + HEAD, 0, 0)
        self.wrong(HEAD + "\n", 3, 0)
        self.wrong(HEAD + "\n\nseal a", 3, 0)
        self.wrong(HEAD + "\nseal a\n", 4, 0)
        self.wrong(HEAD + "\nseal a\n\n", 4, 0)

    def test_names(self):
        for name in ("", "A", "abcdefghi", "1", "a,b", "-", "a_"):
            self.wrong("chest " + name, 0, 1)
            self.wrong("chest " + name + " 2", 0, 1)
            self.wrong("chest a 1\nchest " + name + " 0 0", 1, 1)
        self.wrong("chest", 0, 1)
        self.wrong("chest a 1\nchest", 1, 1)
        self.wrong("chest b 1\nchest a 1", 1, 1)
        self.wrong("chest a 1\nchest a 1", 1, 1)
        self.wrong("chest a 1\nchest c 1\nchest b 1", 2, 1)
        self.wrong("chest  a 1", 0, 1)

    def test_sizes(self):
        for size in ("", "0", "00", "01", "-1", "+1", "1.", "a", "1,1", "1_0", "x1", "9" * 61, "1" + "0" * 60, "9" * 5000):
            self.wrong("chest a " + size, 0, 2)
            self.wrong("chest a 1\nchest b " + size + " 1", 1, 2)
        self.wrong("chest a", 0, 2)
        self.wrong("chest a 1\nchest b", 1, 2)
        self.wrong("chest a  1", 0, 2)
        self.wrong("chest a ", 0, 2)
        self.is_same(hall_read("chest a " + SIXTY), (("a",), (int(SIXTY),), ()))

    def test_one_word_too_many_for_a_chest(self):
        for more in ("", "1", "seal", "x y", " "):
            self.wrong("chest a 1 " + more, 0, 3)
            self.wrong("chest a 1\nchest b 1 " + more, 1, 3)

    def test_lots(self):
        lots = ("", "d", "a,d", "b,a", "a,a", "a,", ",a", "a,,b", "-", "A", "0", "a,b,c,d", "a,b,c,c", "a,c,b", ",")
        for lot in lots:
            self.wrong(HEAD + "\nseal " + lot, 3, 1)
            self.wrong(HEAD + "\nseal a 0\nseal " + lot + " 0 7", 4, 1)
        self.wrong(HEAD + "\nseal", 3, 1)
        self.wrong(HEAD + "\nseal  a", 3, 1)
        four = "chest a 1\nchest b 1\nchest c 1\nchest d 1"
        self.wrong(four + "\nseal a,b,c,d", 4, 1)
        self.is_same(hall_read(four + "\nseal a,b,d 0,0,0")[2], ((("a", "b", "d"), ((0, 0, 0),)),))

    def test_rows(self):
        for row in ("", "2,0", "0,3", "0", "0,0,0", "0,", ",0", "0,,0", "00,0", "0,00", "0,01", "-1,0", "0,a", "0;0", ",", "+0,0"):
            self.wrong(HEAD + "\nseal a,b " + row, 3, 2)
            self.wrong(HEAD + "\nseal a,b 0,0 " + row, 3, 3)
            self.wrong(HEAD + "\nseal c\nseal a,b 0,0 0,1 " + row + " 1,0", 4, 4)
        self.wrong(HEAD + "\nseal b 0 0", 3, 3)
        self.wrong(HEAD + "\nseal b 1 0", 3, 3)
        self.wrong(HEAD + "\nseal b 0 2 1", 3, 4)
        self.wrong(HEAD + "\nseal a,b 0,0 1,0 0,1", 3, 4)
        self.wrong(HEAD + "\nseal b ", 3, 2)
        self.wrong(HEAD + "\nseal b 0 ", 3, 3)
        self.wrong(HEAD + "\nseal b  0", 3, 2)

    def test_great_numbers_in_rows(self):
        text = "chest a " + SIXTY + "\nseal a 0 "
        most = str(10**60 - 2)
        self.is_same(hall_read(text + most)[2], ((("a",), ((0,), (10**60 - 2,))),))
        self.is_same(hall_read("chest a 12\nseal a 2 10")[2], ((("a",), ((2,), (10,))),))
        for word in (SIXTY, "9" * 61, "1" + "0" * 60, "0" * 60 + "1", "9" * 5000):
            self.wrong(text + word, 1, 3)

    def test_the_first_of_two_faults(self):
        self.wrong("chest A 0 x", 0, 1)
        self.wrong("chest a 0 x", 0, 2)
        self.wrong("x\nchest", 0, 0)
        self.wrong("chest a 1 1\nx", 0, 3)
        self.wrong("chest a 1\nchest a x\nseal", 1, 1)
        self.wrong("chest a 1\nseal b 5\nx", 1, 1)
        self.wrong("chest a 1\nseal a 5 x\nx", 1, 2)
        self.wrong("chest a 2\nseal a 1 0 5\nseal z", 1, 3)


class ChestsRead(Case):
    def wrong(self, text, field):
        with self.subTest(text=text):
            self.refuses(InvalidText(0, field), chests_read, text)
            self.refuses(InvalidText(0, field), chests_read, text=text)

    def test_there_and_back(self):
        for chests in ((), ("a",), ("a", "b"), ("a", "aa", "abcdefgh", "b", "zz"), PAIR[0], tuple("abcdefghijklm")):
            self.is_same(chests_read(chests_words(chests)), chests)
            self.is_same(chests_read(text=chests_words(chests)), chests)
            self.is_same(chests_words(chests_read(chests_words(chests))), chests_words(chests))

    def test_no_strings(self):
        wrong = [value for value in ANY if not isinstance(value, str)] + [["a"], ("a",), ("-",)]
        self.refuses_parameter(chests_read, {"text": "a"}, "text", wrong, "text")

    def test_words(self):
        for word in ("", "A", "abcdefghi", "1", "a,b", "--", "-a", "a-", "a\n", "\na", "\n", "a\nb", "-\n", "\n-"):
            self.wrong(word, 0)
            self.wrong(word + " b", 0)
            self.wrong("a b " + word, 2)
        self.wrong("b a", 1)
        self.wrong("a a", 1)
        self.wrong("a c b d a", 2)
        self.wrong("a  b", 1)
        self.wrong(" a", 0)
        self.wrong("a ", 1)

    def test_dash(self):
        self.is_same(chests_read("-"), ())
        for text in ("- a", "- -", "- ", "- \n", "-  a", "- a b"):
            self.wrong(text, 1)
        self.wrong("a -", 1)
        self.wrong("a b - c", 2)


if __name__ == "__main__":
    unittest.main()
