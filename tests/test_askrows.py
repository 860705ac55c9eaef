"""[45] and the consequences in [46]: rows_of_tree, tree_of_rows."""

import unittest

from keptopen.askchecker import lets_tree
from keptopen.askrows import rows_of_tree, tree_of_rows
from keptopen.asktrees import ask_tree, lean_tree, least_depth
from keptopen.playchecker import lets_play
from keptopen.playpapers import play_paper
from keptopen.plays import grasp, moves
from support import ANY, FREE, LONG, LOST, NAMED, NEVER, NO_HALLS, PAIR, SPLIT, TIED, TRIO, WIDE, Case, answers
from support import drawn_tree, slow_leaves, slow_sound
from test_askchecker import TREE
from test_askways import NO_TREES

ROWS = (((("a", 0),), "b", (None, None)), ((), "a", (0, None)))
AGAIN = (
    ((("b", 0),), "c", (None, None)), ((("b", 1),), "a", (None, None)), ((("a", 0),), "b", (0, None)), ((), "b", (0, 1)),
)
# Each of these has just one fault, but is rows that catch for PAIR and m of 2 otherwise.
WRONG_ROWS = (
    (), list(ROWS), ROWS[:1], ROWS[1:], ROWS[::-1], ROWS + ROWS[:1], (ROWS[0], list(ROWS[1])), ROWS + (None,), ("caught", ROWS),
    (ROWS[0], ((), "a", (0, 0))), (ROWS[0], ((), "a", (None, None))), (ROWS[0], ((), "a", (False, None))),
    (ROWS[0], ((), "a", (0,))), (ROWS[0], ((), "a", [0, None])), (ROWS[0], ((), "c", (0, None))),
    (ROWS[0], ((), "a", (1, None))), (ROWS[0], ((), "a", (-2, None))),
    (((("a", 0),), "a", (None, None)), ROWS[1]), (((("a", False),), "b", (None, None)), ROWS[1]),
    (((("a", 0), ("b", 0)), "b", (None, None)),) + ROWS[:1] + (((), "a", (1, None)),),
)


def moves_of(rows):
    """The moves of the last one of the rows."""
    told = []
    for _, _, grounds in rows:
        told.append(1 + max([told[ground] for ground in grounds if ground is not None], default=0))
    return told[-1]


def slow_rows(hall, tree, filling=()):
    """A list of the rows of a question, the grounds being counted from the first one of these."""
    rows, grounds = [], []
    for thing, longer in enumerate(answers(hall, filling, tree[0])):
        subtree = tree[1][thing]
        if type(subtree[1]) is tuple:
            below = slow_rows(hall, subtree, longer)
            shift = len(rows)
            rows += [(one, chest, tuple([k if k is None else k + shift for k in told])) for one, chest, told in below]
            grounds.append(len(rows) - 1)
        else:
            grounds.append(None)
    return rows + [(filling, tree[0], tuple(grounds))]


class RowsOfTree(Case):
    def test_drawn_trees(self):
        for hall in LOST:
            for seed in range(5):
                tree = drawn_tree(hall, seed)
                rows = rows_of_tree(hall, tree)
                self.is_same(rows, tuple(slow_rows(hall, tree)))
                self.is_same(rows_of_tree(tree=tree, hall=hall), rows)

    def test_the_rows_are_accepted(self):
        for hall in LOST:
            for tree in (ask_tree(hall), lean_tree(hall), drawn_tree(hall, 7), drawn_tree(hall, 8)):
                depth = lets_tree(hall, tree)[0]
                self.is_same(lets_play(hall, depth, ("caught", rows_of_tree(hall, tree))), depth)

    def test_edges(self):
        self.is_same(rows_of_tree(NEVER, ("a", (("broken", 0),) * 3)), (((), "a", (None, None, None)),))
        self.is_same(rows_of_tree(PAIR, TREE), ROWS)
        tree = ("z", (("broken", 2), ("broken", (("broken", 0), ("broken", 1)))))
        self.is_same(rows_of_tree(NAMED, tree), (((("z", 1),), "broken", (None, None)), ((), "z", (None, 0))))
        # The rows of the first subtree with all in it come first.
        late = ("a", (("b", (("broken", 2), ("broken", 1))), ("b", (("broken", 2), ("broken", 0)))))
        rows = (((("a", 0),), "b", (None, None)), ((("a", 1),), "b", (None, None)), ((), "a", (0, 1)))
        self.is_same(rows_of_tree(PAIR, late), rows)

    def test_wrong_values(self):
        good = {"hall": PAIR, "tree": TREE}
        self.refuses_parameter(rows_of_tree, good, "hall", NO_HALLS, "hall")
        self.refuses_parameter(rows_of_tree, good, "tree", NO_TREES, "tree")


class TreeOfRows(Case):
    def right(self, hall, rows):
        """The tree of the rows is one, of at most their depth."""
        tree = tree_of_rows(hall, rows)
        self.assertIs(type(tree), tuple)
        self.assertLessEqual(lets_tree(hall, tree)[0], moves_of(rows))
        self.is_same(tree_of_rows(rows=rows, hall=hall), tree)

    def test_there_and_back(self):
        for hall in LOST:
            for tree in (ask_tree(hall), lean_tree(hall), drawn_tree(hall, 3), drawn_tree(hall, 4)):
                rows = rows_of_tree(hall, tree)
                self.right(hall, rows)
                self.assertLessEqual(lets_tree(hall, tree_of_rows(hall, rows))[0], lets_tree(hall, tree)[0])
            self.assertEqual(lets_tree(hall, tree_of_rows(hall, rows_of_tree(hall, ask_tree(hall))))[0], least_depth(hall))

    def test_rows_of_papers_for_each_m(self):
        for hall in LOST + WIDE:
            for m in range(1, len(hall[0]) + 1):
                word, rows = play_paper(hall, m)
                if word == "caught":
                    self.right(hall, rows)

    def test_rows_that_need_a_chest_again(self):
        self.right(TIED, AGAIN)
        # With two open chests an opener of a chain looks into some chests twice, which a question tree does not.
        rows = play_paper(LONG, 2)[1]
        self.assertEqual((moves_of(rows), least_depth(LONG)), (4, 3))
        self.right(LONG, rows)
        # The row behind asks again what is known.
        twice = (ROWS[0], ((), "a", (0, None)), ((("b", 1),), "a", (0, None)), ((), "b", (1, 2)))
        self.right(PAIR, twice)
        self.assertEqual(moves_of(twice), 3)
        again = (ROWS[0], ROWS[1], ((("a", 0),), "b", (1, 1)), ((), "a", (2, 1)))
        self.right(PAIR, again)

    def test_grounds_where_both_fit_and_fillings_that_are_not_sound(self):
        self.right(PAIR, (ROWS[0], ((), "a", (0, None)), ((), "a", (0, 1))))
        self.right(PAIR, (((("a", 1),), "b", (None, None)), ROWS[0], ((), "a", (1, 0))))
        self.right(TIED, AGAIN[:2] + (((("a", 0),), "b", (0, 1)), ((("a", 1),), "b", (0, 1)), ((), "a", (2, 3))))

    def test_very_many_rows(self):
        rows = ROWS
        for k in range(400):
            rows += (((), "a", (k + 1, k + 1)),)
        self.right(PAIR, rows)

    def test_edges(self):
        self.is_same(tree_of_rows(NEVER, (((), "a", (None,) * 3),)), ("a", (("broken", 0),) * 3))
        self.right(SPLIT, (((), "b", (None, None)),))
        self.right(NAMED, rows_of_tree(NAMED, ask_tree(NAMED)))

    def test_leaves_are_broken(self):
        for hall in (TIED, TRIO, LONG, PAIR):
            for way, filling, index in slow_leaves(hall, tree_of_rows(hall, play_paper(hall, len(hall[0]))[1])):
                self.assertEqual((len(way), slow_sound(hall, filling)), (len(filling), False))
                self.assertLess(index, len(hall[2]))

    def test_wrong_values(self):
        good = {"hall": PAIR, "rows": ROWS}
        self.refuses_parameter(tree_of_rows, good, "hall", NO_HALLS, "hall")
        self.refuses_parameter(tree_of_rows, good, "rows", ANY + WRONG_ROWS, "rows")
        self.refuses_parameter(tree_of_rows, {"hall": TIED, "rows": AGAIN}, "rows", ANY + (AGAIN[:3], AGAIN[:1], ROWS), "rows")
        self.refuses_parameter(tree_of_rows, {"hall": FREE, "rows": ROWS}, "rows", ANY + (ROWS, AGAIN), "rows")


class Consequences(Case):
    def test_numbers_of_moves(self):
        for hall in LOST:
            depth = least_depth(hall)
            self.assertEqual(moves(hall, len(hall[0])), depth)
            self.assertLessEqual(grasp(hall), depth)
            for m in range(depth, len(hall[0]) + 2):
                self.assertEqual(moves(hall, m), depth)


if __name__ == "__main__":
    unittest.main()
