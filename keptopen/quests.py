"""Question trees as objects."""

from keptopen.askchanges import order_tree, pruned_tree
from keptopen.askchecker import depth_and_leaves, is_leaf
from keptopen.askrows import rows_of_tree
from keptopen.asktrees import ask_tree, lean_tree
from keptopen.askways import leaf_for, leaves_of
from keptopen.errors import NotUsable
from keptopen.fillingchecker import is_filling
from keptopen.kinds import is_number


class Quest:
    """A question tree of a hall, which never changes."""

    def __init__(self, hall, tree):
        self._leaves = leaves_of(hall, tree)
        self._hall = hall
        self._tree = tree

    @classmethod
    def least(cls, hall):
        """The Quest of a question tree of least depth, None for a hall that can be kept."""
        return quest_or_none(hall, ask_tree(hall))

    @classmethod
    def lean(cls, hall):
        """The Quest of a question tree with the fewest leaves, None for a hall that can be kept."""
        return quest_or_none(hall, lean_tree(hall))

    @classmethod
    def ordered(cls, hall, order):
        """The Quest of the question tree that asks the chests in this order, None for a hall that can be kept."""
        return quest_or_none(hall, order_tree(hall, order))

    @property
    def hall_now(self):
        """The hall."""
        return self._hall

    @property
    def tree_now(self):
        """The question tree."""
        return self._tree

    @property
    def depth_now(self):
        """The greatest number of questions on a way."""
        return depth_and_leaves(self._tree)[0]

    @property
    def leaves_now(self):
        """How many leaves there are."""
        return len(self._leaves)

    def pruned(self):
        """The Quest with a leaf wherever the filling of a way is not sound."""
        return Quest(self._hall, pruned_tree(self._hall, self._tree))

    def listed(self):
        """The rows of the question tree."""
        return rows_of_tree(self._hall, self._tree)

    def __call__(self, filling):
        return leaf_for(self._hall, self._tree, filling)

    def __getitem__(self, at):
        return tree_along(self._tree, at)

    def __contains__(self, x):
        return is_filling(self._hall, x) and any([x == filling for filling, _ in self._leaves])

    def __len__(self):
        return len(self._leaves)

    def __iter__(self):
        return iter(self._leaves)

    def __eq__(self, other):
        return isinstance(other, Quest) and self._hall == other._hall and self._tree == other._tree


def quest_or_none(hall, tree):
    """The Quest of a question tree, None for None."""
    return None if tree is None else Quest(hall, tree)


def tree_along(tree, way):
    """The leaf, or the question tree, to which these things lead, one after the other."""
    if not isinstance(way, tuple):
        raise NotUsable("way", -1)
    reached = tree
    for thing in way:
        if is_leaf(reached) or not is_number(thing) or thing >= len(reached[1]):
            raise NotUsable("way", -1)
        reached = reached[1][thing]
    return reached
