"""[53]: web_paper."""

import unittest

from keptopen.bagchecker import lets_bags
from keptopen.bags import size_of_web
from keptopen.webpaperchecker import lets_size
from keptopen.webpapers import web_paper
from support import DOT, FULL, NO_WEBS, RING, VALUE, WAY, WEBS, Case
from test_plays import NO_MS
from test_thickets import slow_is_thicket


class WebPaper(Case):
    def test_each_m(self):
        for web in WEBS:
            size = size_of_web(web)
            for m in range(1, len(web[0]) + 3):
                paper = web_paper(web, m)
                self.is_same(web_paper(m=m, web=web), paper)
                self.is_same(lets_size(web, m, paper), size <= m)
                if size <= m:
                    word, bags, links = paper
                    self.is_same(word, "bags")
                    self.assertLessEqual(lets_bags(web, (bags, links)), m)
                else:
                    word, lots = paper
                    self.is_same(word, "thicket")
                    self.assertTrue(slow_is_thicket(web, m, lots))
                self.assertIs(type(paper), tuple)

    def test_edges(self):
        self.is_same(web_paper(DOT, 1), ("bags", (("a",),), ()))
        self.is_same([web_paper(WAY, 1)[0], web_paper(WAY, 2)[0], web_paper(WAY, 10**59)[0]], ["thicket", "bags", "bags"])
        self.is_same([web_paper(FULL[3], m)[0] for m in (3, 4, 5, 6)], ["thicket", "thicket", "bags", "bags"])

    def test_wrong_values(self):
        good = {"web": RING, "m": 2}
        self.refuses_parameter(web_paper, good, "web", NO_WEBS, "web")
        self.refuses_parameter(web_paper, good, "m", NO_MS, "m", VALUE)


if __name__ == "__main__":
    unittest.main()
