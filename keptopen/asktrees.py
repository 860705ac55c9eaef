"""The least question trees of a hall: by their depth, and by their leaves."""

from keptopen.fillings import answers_to, broken_seals, sound_fillings
from keptopen.usable import require_hall


def least_depth(hall):
    """The least depth of all question trees, None for a hall that can be kept."""
    require_hall(hall)
    return least_number(hall, False)


def least_leaves(hall):
    """The least number of leaves of all question trees, None for a hall that can be kept."""
    require_hall(hall)
    return least_number(hall, True)


def ask_tree(hall):
    """Any question tree of least depth, None for a hall that can be kept."""
    require_hall(hall)
    return least_tree(hall, False)


def lean_tree(hall):
    """Any question tree with the fewest leaves, None for a hall that can be kept."""
    require_hall(hall)
    return least_tree(hall, True)


def least_number(hall, by_leaves):
    """The least number of leaves, or the least depth."""
    best = best_questions(hall, by_leaves)
    return best[()][0] if () in best else None


def least_tree(hall, by_leaves):
    """Any question tree with the fewest leaves, or of least depth."""
    best = best_questions(hall, by_leaves)
    return tree_behind(hall, best, ()) if () in best else None


def best_questions(hall, by_leaves):
    """For each sound filling the pair of the least number and the chest to ask first, a dict by filling.

    The number is that of the leaves, or the depth, of the best tree behind the filling; without a tree it has no pair.
    """
    sound = sound_fillings(hall, len(hall[0]))
    known = {filling: True for filling in sound}
    best = {}
    for _, filling in sorted([(-len(filling), filling) for filling in sound]):
        held = dict(filling)
        found = []
        for chest in hall[0]:
            if chest not in held:
                answers = answers_to(hall, filling, chest)
                going = [longer for longer in answers if longer in known]
                if all([longer in best for longer in going]):
                    numbers = [best[longer][0] for longer in going]
                    found.append((question_number(numbers, len(answers) - len(going), by_leaves), chest))
        if found:
            best[filling] = min(found)
    return best


def question_number(numbers, broken, by_leaves):
    """The number of a question, by those of its subtrees, and by how many of these are broken at once."""
    if by_leaves:
        return sum(numbers) + broken
    return 1 + max(numbers, default=0)


def tree_behind(hall, best, filling):
    """The question tree behind the filling by the best questions, a leaf if the filling is not sound."""
    leaf = first_leaf(hall, filling)
    if leaf is not None:
        return leaf
    chest = best[filling][1]
    return (chest, tuple([tree_behind(hall, best, longer) for longer in answers_to(hall, filling, chest)]))


def first_leaf(hall, filling):
    """The leaf with the least index of a seal that the filling breaks, None if it is sound."""
    broken = broken_seals(hall, filling)
    return ("broken", broken[0]) if broken else None
