"""Rows of a question tree, and a question tree of rows."""

from keptopen.askchecker import is_leaf, require_tree
from keptopen.asktrees import first_leaf
from keptopen.errors import NotUsable
from keptopen.fillings import answers_to, with_pair
from keptopen.playchecker import rows_fault
from keptopen.usable import require_hall


def rows_of_tree(hall, tree):
    """Rows that catch for m as many as the depth: one for each question, those of its subtrees ahead of it."""
    require_hall(hall)
    require_tree(hall, tree)
    return tuple(rows_behind(tree, (), 0))


def tree_of_rows(hall, rows):
    """Any question tree whose depth is at most the moves of the last one of rows that catch."""
    require_hall(hall)
    if not isinstance(rows, tuple) or rows_fault(hall, len(hall[0]), rows) is not None:
        raise NotUsable("rows", -1)
    return tree_by_rows(hall, rows, rows[-1], ())


def rows_behind(tree, filling, start):
    """The rows of a question behind this filling, as a list, the first of them having the index start."""
    chest, subtrees = tree
    rows = []
    grounds = []
    for thing, subtree in enumerate(subtrees):
        if is_leaf(subtree):
            grounds.append(None)
        else:
            rows.extend(rows_behind(subtree, with_pair(filling, chest, thing), start + len(rows)))
            grounds.append(start + len(rows) - 1)
    rows.append((filling, chest, tuple(grounds)))
    return rows


def tree_by_rows(hall, rows, row, filling):
    """The question tree behind a filling of which that of the row is part, a leaf if it is not sound."""
    leaf = first_leaf(hall, filling)
    if leaf is not None:
        return leaf
    asked = row_to_ask(rows, row, filling)
    answers = answers_to(hall, filling, asked[1])
    return (asked[1], tuple([tree_by_rows(hall, rows, asked, longer) for longer in answers]))


def row_to_ask(rows, row, filling):
    """The first row, from this one on, that looks into a chest that the filling lacks."""
    held = dict(filling)
    reached = row
    while reached[1] in held:
        _, chest, grounds = reached
        # There is a ground, as what the filling has in it is sound.
        reached = rows[grounds[held[chest]]]
    return reached
