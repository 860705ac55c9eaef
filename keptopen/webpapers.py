"""Papers of the size of a web."""

from keptopen.bags import tree_of_bags
from keptopen.thickets import thicket


def web_paper(web, m):
    """Any paper: a tree of bags of a size of at most m, or a thicket for m."""
    lots = thicket(web, m)
    if lots is not None:
        return ("thicket", lots)
    bags, links = tree_of_bags(web)
    return ("bags", bags, links)
