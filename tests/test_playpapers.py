"""[6], [9] (O1) and [34]: play_paper."""

import unittest

from keptopen.families import is_family
from keptopen.playchecker import lets_play
from keptopen.playpapers import play_paper
from keptopen.plays import moves
from support import ALONE, DRAWN, HALLS, LONG, NEVER, NO_HALLS, ODD, PAIR, TIGHT, VALUE, Case, slow_family
from test_plays import NO_MS

ALL = HALLS + DRAWN + TIGHT


def plain(value):
    """Whether the value has no other parts than tuples, strings, integers and None."""
    if type(value) is tuple:
        return all(plain(part) for part in value)
    return value is None or type(value) in (int, str)


class PlayPaper(Case):
    def test_papers_are_accepted(self):
        for hall in ALL:
            for m in range(1, len(hall[0]) + 3):
                for paper in (play_paper(hall, m), play_paper(m=m, hall=hall)):
                    self.assertIs(type(paper), tuple)
                    self.assertTrue(plain(paper))
                    told = lets_play(hall, m, paper)
                    self.assertEqual(paper[0], "kept" if moves(hall, m) is None else "caught")
                    self.assertEqual(told is None, moves(hall, m) is None)
                    if told is not None:
                        self.assertGreaterEqual(told, moves(hall, m))
                    else:
                        self.assertIs(is_family(hall, m, paper[1]), True)

    def test_rows_catch_keepers_whatever_they_say(self):
        for hall in ALL:
            for m in range(1, len(hall[0]) + 1):
                word, rows = play_paper(hall, m)
                if word == "caught":
                    self.assertIs(slow_family(hall, m), None)
                    self.assertLessEqual(self.longest(hall, m, rows), lets_play(hall, m, (word, rows)))

    def longest(self, hall, m, rows):
        """The most looks that an opener needs who goes by the rows from the last one on."""
        needed = []
        for filling, chest, grounds in rows:
            self.assertLess(len(filling), m)
            self.assertEqual(len(grounds), hall[1][hall[0].index(chest)])
            needed.append(1 + max([needed[ground] for ground in grounds if ground is not None], default=0))
        return needed[-1]

    def test_edges(self):
        self.is_same(play_paper(ALONE, 1), ("kept", ((), (("a", 0),))))
        self.is_same(play_paper(NEVER, 1), ("caught", (((), "a", (None, None, None)),)))
        self.is_same(play_paper(NEVER, 10**59)[0], "caught")
        self.assertEqual((play_paper(LONG, 1)[0], play_paper(LONG, 2)[0], play_paper(ODD, 3)[0]), ("kept", "caught", "caught"))

    def test_wrong_values(self):
        good = {"hall": PAIR, "m": 1}
        self.refuses_parameter(play_paper, good, "hall", NO_HALLS, "hall")
        self.refuses_parameter(play_paper, good, "m", NO_MS, "m", VALUE)


if __name__ == "__main__":
    unittest.main()
