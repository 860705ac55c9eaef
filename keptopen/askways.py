"""The leaves of a question tree, and the one to which a whole filling goes."""

from keptopen.askchecker import is_leaf, require_tree
from keptopen.fillingchecker import require_whole
from keptopen.fillings import is_part, with_pair
from keptopen.usable import require_hall


def leaves_of(hall, tree):
    """A pair (filling, index) for each leaf, in order: the filling of its way, and its index."""
    require_hall(hall)
    require_tree(hall, tree)
    return tuple(leaves_behind(tree, ()))


def leaf_for(hall, tree, filling):
    """The only one of the pairs of leaves_of whose filling is part of a whole filling."""
    require_hall(hall)
    require_tree(hall, tree)
    require_whole(hall, filling)
    return [leaf for leaf in leaves_behind(tree, ()) if is_part(leaf[0], filling)][0]


def leaves_behind(tree, filling):
    """The pairs of the leaves of a tree behind this filling, as a list."""
    if is_leaf(tree):
        return [(filling, tree[1])]
    chest, subtrees = tree
    ways_on = [(subtree, with_pair(filling, chest, thing)) for thing, subtree in enumerate(subtrees)]
    return [leaf for subtree, longer in ways_on for leaf in leaves_behind(subtree, longer)]
