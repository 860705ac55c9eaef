"""The size of a web, and trees of bags of this size."""

from keptopen.bagchecker import size_of_bags
from keptopen.fillings import parts_up_to
from keptopen.usable import require_web
from keptopen.webparts import joined_by, reached_from


def size_of_web(web):
    """The size of the web: the least size of a tree of bags of it."""
    require_web(web)
    return size_of_bags(least_tree_of_bags(web))


def tree_of_bags(web):
    """Any tree of bags of the size of the web."""
    require_web(web)
    return least_tree_of_bags(web)


def least_tree_of_bags(web):
    """tree_of_bags, for what is known to be a web."""
    joined = joined_by(web[1])
    order = best_order(web[0], joined)
    bags = [bag_at(joined, order[:k], chest) for k, chest in enumerate(order)]
    links = [(k, next_bag(order, k, bags[k])) for k in range(len(order) - 1)]
    return (tuple(bags), tuple(links))


def best_order(chests, joined):
    """An order in which the chests go, one by one, so that the greatest bag is as small as it can be."""
    # For each set of chests that went: how great the greatest bag is by then, and which chest went last.
    best = {(): (0, None)}
    for _, gone in sorted([(len(lot), lot) for lot in parts_up_to(chests, len(chests)) if lot]):
        found = []
        for chest in gone:
            before = lot_without(gone, chest)
            found.append((max(best[before][0], len(bag_at(joined, before, chest))), chest))
        best[gone] = min(found)
    order = []
    left = chests
    while left:
        order.append(best[left][1])
        left = lot_without(left, best[left][1])
    return order[::-1]


def bag_at(joined, gone, chest):
    """The set of a chest that goes, and of those left that ways along chests that went join with it."""
    # Ways end at what is left, so that the joins of this chest and of those that went are enough.
    inner = {one: joined.get(one, []) for one in list(gone) + [chest]}
    return tuple([one for one in reached_from(chest, inner) if one not in gone])


def lot_without(lot, chest):
    """The set of the other chests of the lot."""
    return tuple([other for other in lot if other != chest])


def next_bag(order, k, bag):
    """The index of the bag with which bag k is linked: that of the first chest of it that goes later."""
    later = [j for j in range(k + 1, len(order)) if order[j] in bag]
    return later[0] if later else k + 1
