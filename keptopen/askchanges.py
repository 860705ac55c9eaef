"""Question trees by an order of the chests, and without what is asked too late."""

from keptopen.askchecker import require_tree
from keptopen.asktrees import first_leaf
from keptopen.errors import NotUsable
from keptopen.fillings import answers_to
from keptopen.usable import is_chest_of, require_hall
from keptopen.wholes import wholes_with


def order_tree(hall, order):
    """The question tree that asks the chests in this order, None for a hall that can be kept."""
    require_hall(hall)
    require_order(hall, order)
    return None if wholes_with(hall, ()) else ordered_behind(hall, order, ())


def pruned_tree(hall, tree):
    """The question tree with a leaf wherever the filling of a way is not sound."""
    require_hall(hall)
    require_tree(hall, tree)
    return pruned_behind(hall, tree, ())


def require_order(hall, order):
    """Refuses what is no tuple of all chests of the hall, each once."""
    right = isinstance(order, tuple) and all([is_chest_of(hall, chest) for chest in order])
    if not right or tuple(sorted(order)) != hall[0]:
        raise NotUsable("order", -1)


def ordered_behind(hall, order, filling):
    """The question tree behind a filling that has the first chests of this order."""
    leaf = first_leaf(hall, filling)
    if leaf is not None:
        return leaf
    chest = order[len(filling)]
    return (chest, tuple([ordered_behind(hall, order, longer) for longer in answers_to(hall, filling, chest)]))


def pruned_behind(hall, tree, filling):
    """The pruned question tree behind this filling."""
    leaf = first_leaf(hall, filling)
    if leaf is not None:
        return leaf
    chest, subtrees = tree
    answers = answers_to(hall, filling, chest)
    return (chest, tuple([pruned_behind(hall, subtree, longer) for subtree, longer in zip(subtrees, answers)]))
