"""Confirms question trees."""

from keptopen.errors import NotUsable
from keptopen.fillings import broken_seals, has_chest, with_pair
from keptopen.hallchecker import require_no_fault, sizes_of
from keptopen.kinds import is_integer, is_pair
from keptopen.usable import is_chest_of, require_hall


def lets_tree(hall, thing):
    """The pair of the depth and the number of leaves of a question tree; InvalidPaper for any other value."""
    require_hall(hall)
    require_no_fault(tree_fault(hall, thing))
    return depth_and_leaves(thing)


def require_tree(hall, tree):
    """Refuses what is no question tree of the hall."""
    if tree_fault(hall, tree) is not None:
        raise NotUsable("tree", -1)


def tree_fault(hall, thing):
    """The first fault of any value as a question tree, a pair (word, at); None for a question tree."""
    if not is_pair(thing):
        return ("shape", -1)
    return subtree_fault(hall, thing, (), ())


def subtree_fault(hall, tree, filling, at):
    """The first fault in a subtree to which these things lead, behind this filling."""
    if is_leaf(tree):
        word = leaf_fault(hall, tree, filling)
    else:
        word = question_fault(hall, tree, filling)
    if word is not None:
        return (word, at)
    if is_leaf(tree):
        return None
    chest, subtrees = tree
    for thing, subtree in enumerate(subtrees):
        fault = subtree_fault(hall, subtree, with_pair(filling, chest, thing), at + (thing,))
        if fault is not None:
            return fault
    return None


def leaf_fault(hall, leaf, filling):
    """The word for the fault of a leaf behind this filling."""
    index = leaf[1]
    if not 0 <= index < len(hall[2]):
        return "index"
    return None if index in broken_seals(hall, filling) else "sound"


def question_fault(hall, tree, filling):
    """The word for the first fault of any value as a question behind this filling, but for those in its subtrees."""
    if not is_pair(tree) or not isinstance(tree[0], str) or not isinstance(tree[1], tuple):
        return "tree"
    chest, subtrees = tree
    if not is_chest_of(hall, chest) or has_chest(filling, chest):
        return "chest"
    return None if len(subtrees) == sizes_of(hall)[chest] else "subtrees"


def is_leaf(thing):
    """Whether any value has the form of a leaf; a question about a chest called broken has a tuple behind it."""
    return is_pair(thing) and thing[0] == "broken" and is_integer(thing[1])


def depth_and_leaves(tree):
    """The greatest number of questions on a way, and how many leaves there are."""
    if is_leaf(tree):
        return (0, 1)
    told = [depth_and_leaves(subtree) for subtree in tree[1]]
    return (1 + max([depth for depth, _ in told]), sum([leaves for _, leaves in told]))
