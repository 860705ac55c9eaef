"""[1], [2] and [9]: what the program promises as a whole, on small halls and webs of several kinds."""

import unittest

from keptopen.askchecker import lets_tree
from keptopen.asktrees import ask_tree, least_depth
from keptopen.bagchecker import lets_bags
from keptopen.bags import size_of_web, tree_of_bags
from keptopen.bybags import many_by, some_by
from keptopen.deadchecker import lets_dead
from keptopen.deadpapers import dead_paper
from keptopen.errors import NotUsable
from keptopen.families import family, is_family
from keptopen.games import Game
from keptopen.gluing import kept_by, moves_by
from keptopen.guarded import Sure
from keptopen.hiding import switched_family
from keptopen.oddparts import least_switched, odd_parts
from keptopen.playchecker import lets_play
from keptopen.playpapers import play_paper
from keptopen.plays import grasp, moves
from keptopen.settingchecker import lets_settings
from keptopen.settingpapers import settings_paper
from keptopen.switched import switched_hall
from keptopen.thickets import thicket
from keptopen.walkers import Walker
from keptopen.webpaperchecker import lets_size, lets_thicket
from keptopen.webpapers import web_paper
from keptopen.webparts import web_of
from keptopen.wholes import many_wholes, some_whole
from gamesupport import CHAIN
from support import DOT, DOTS, DRAWN, EIGHT, FOUR, FULL, HALLS, LADDER, LONG, RING, SEVEN, STAR, SUMS, SWITCHED, THREE_BY_THREE, TIED
from support import TIGHT, TWO, WAY, WEBS, Case, Draw, all_lots, drawn_bags, slow_family, slow_sound, slow_web, slow_wholes, some_odds

FEW = tuple([hall for hall in HALLS if hall != LONG]) + (TIED, CHAIN) + DRAWN[:60] + TIGHT[:20]
SMALL = tuple([web for web in SWITCHED if len(web[0]) <= 4 and len(web[1]) <= 4]) + (TWO,)


class Openers(Case):
    def test_o1_rows_or_a_family(self):
        for hall in FEW:
            for m in range(1, len(hall[0]) + 2):
                paper = play_paper(hall, m)
                told = lets_play(hall, m, paper)
                kept = slow_family(hall, min(m, len(hall[0])))
                self.assertEqual((paper[0] == "kept", moves(hall, m) is None, told is None), (kept is not None,) * 3)
                if kept is None:
                    self.assertGreaterEqual(told, moves(hall, m))
                    self.refuses(NotUsable("m", m), Sure, hall, m)
                    self.caught(Game(hall, m), moves(hall, m))
                else:
                    self.not_caught(Sure(hall, m))

    def caught(self, game, left):
        """Whatever the keeper says, the opener catches it within so many looks, with few chests open."""
        if game.state() == "caught":
            return
        self.assertGreater(left, 0)
        away, chest = game.advice()
        told = () if away is None else (("shut", away),)
        for thing in range(game.hall_now[1][game.hall_now[0].index(chest)]):
            game.do_all(*told, ("look", chest, thing))
            self.assertLessEqual(len(game.filling_now), game.m_now)
            self.caught(game, left - 1)
            for _ in range(1 + len(told)):
                game.undo()

    def not_caught(self, game):
        """The keeper always has something to say, whatever is opened."""
        draw = Draw(len(game.hall_now[2]))
        while len(game) < game.MOST:
            held = dict(game.filling_now)
            left = [chest for chest in game.hall_now[0] if chest not in held]
            if not left or len(held) == game.m_now or (held and draw.below(4) == 0):
                game.shut(sorted(held)[draw.below(len(held))])
            else:
                chest = left[draw.below(len(left))]
                self.assertEqual(game.look(chest, game.things_now(chest)[0]), "going")
            self.assertTrue(slow_sound(game.hall_now, game.filling_now))

    def test_o2_kept_for_each_m_or_caught_with_all_open(self):
        for hall in FEW:
            if slow_wholes(hall):
                self.assertTrue(all(family(hall, m) is not None for m in range(1, len(hall[0]) + 2)))
                self.assertEqual((grasp(hall), least_depth(hall)), (None, None))
            else:
                self.assertEqual(moves(hall, len(hall[0])), least_depth(hall))
                self.assertEqual(lets_tree(hall, ask_tree(hall))[0], least_depth(hall))
                self.assertLessEqual(grasp(hall), len(hall[0]))

    def test_o3_as_many_open_as_the_size_of_the_bags(self):
        for seed, hall in enumerate(FEW):
            for bags in (tree_of_bags(slow_web(hall)), drawn_bags(slow_web(hall), seed)):
                for m in range(lets_bags(web_of(hall), bags), len(hall[0]) + 2):
                    told = family(hall, m)
                    self.assertEqual(told is not None, bool(slow_wholes(hall)))
                    if told is not None:
                        self.assertIn(kept_by(hall, bags, told), slow_wholes(hall))
                self.assertEqual(many_by(hall, bags) > 0, some_whole(hall) is not None)
                self.assertEqual(some_by(hall, bags) is None, many_wholes(hall) == 0)

    def test_o7_no_chest_twice(self):
        for seed, hall in enumerate(FEW + (SUMS,)):
            if not slow_wholes(hall):
                bags = drawn_bags(slow_web(hall), seed)
                for first in range(len(bags[0])):
                    self.assertEqual(lets_dead(hall, bags, first, dead_paper(hall, bags, first)) >= 0, True)
                    self.walked(Walker(hall, bags, first), max(len(lot) for lot in bags[0]), moves_by(hall, bags, first))
                self.assertLessEqual(moves(hall, max(len(lot) for lot in bags[0])), len(hall[0]))

    def walked(self, walker, size, most):
        """Whatever the keeper says, a Walker catches it, opening no chest twice."""
        self.assertLessEqual(len(walker.filling_now), size)
        self.assertEqual(len({chest for chest, _ in walker}), len(walker))
        if walker.wanted() is None:
            self.assertLessEqual(len(walker), most)
            return
        for thing in range(4):
            try:
                walker.look(thing)
            except NotUsable:
                return
            self.walked(walker, size, most)
            walker.undo()


class WebsOfGates(Case):
    def test_o4_bags_or_a_thicket(self):
        for web in WEBS:
            size = size_of_web(web)
            for m in range(1, len(web[0]) + 1):
                paper = web_paper(web, m)
                self.assertEqual((lets_size(web, m, paper), thicket(web, m) is None), (size <= m, size <= m))
                if size > m:
                    self.assertEqual(paper[0], "thicket")
                    self.assertGreater(lets_thicket(web, m, paper[1]), 0)
                else:
                    self.assertLessEqual(lets_bags(web, paper[1:]), m)

    def test_o5_one_odd_chest_in_a_part_of_the_size(self):
        for web in SMALL + (FOUR, EIGHT, LADDER, SEVEN, THREE_BY_THREE):
            size = size_of_web(web)
            odd = [chest for chest in web[0] if least_switched(web, (chest,)) == size][0]
            hall = switched_hall(web, (odd,))
            self.assertEqual(web_of(hall), web)
            self.assertIsNone(some_by(hall, tree_of_bags(web)))
            part = [one for one in odd_parts(web, (odd,)) if odd in one][0]
            inner = (part, tuple([gate for gate in web[1] if gate[0] in part]))
            for m in range(1, size):
                self.assertIsNone(moves(hall, m))
                told = switched_family(web, odd, m, thicket(inner, m))
                self.assertTrue(is_family(hall, m, told))
                self.assertIsInstance(Sure(hall, m), Sure)
            if size <= 3:
                self.assertIsNotNone(moves(hall, size))

    def test_o5_the_least_size_of_a_part(self):
        for web in SMALL:
            for odds in all_lots(web[0]):
                self.assertEqual(grasp(switched_hall(web, odds)), least_switched(web, odds))

    def test_o6_even_numbers_in_each_part(self):
        for seed, web in enumerate(SMALL + (FOUR, EIGHT, STAR, DOT, DOTS, RING, WAY) + FULL[:3]):
            for odds in some_odds(web, seed):
                hall = switched_hall(web, odds)
                even = odd_parts(web, odds) == ()
                self.assertEqual(many_by(hall, tree_of_bags(web)) > 0, even)
                self.assertIs(lets_settings(web, odds, settings_paper(web, odds)), even)


class Arguments(Case):
    def test_results_depend_on_the_arguments_alone(self):
        for hall in FEW[:20]:
            bags = tree_of_bags(web_of(hall))
            for _ in range(2):
                self.is_same(play_paper(hall, 2), play_paper(hall, 2))
                self.is_same(tree_of_bags(web_of(hall)), bags)
                self.is_same((family(hall, 2), some_by(hall, bags)), (family(hall, 2), some_by(hall, bags)))
                self.is_same(Game(hall, 2).advice(), Game(hall, 2).advice())

    def test_what_is_returned_may_be_passed_in_again(self):
        for web in SMALL:
            for odds in all_lots(web[0])[:4]:
                hall = switched_hall(web, odds)
                m = size_of_web(web)
                self.assertEqual(lets_play(hall, m, play_paper(hall, m)), moves(hall, m))
                game = Game(hall, m)
                self.assertEqual(game.left_now is None, odd_parts(web, odds) == ())


if __name__ == "__main__":
    unittest.main()
