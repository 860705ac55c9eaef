"""Webs as objects."""

from keptopen.bags import lot_without, size_of_web, tree_of_bags
from keptopen.errors import NotUsable
from keptopen.thickets import thicket
from keptopen.usable import require_chest
from keptopen.webchecker import is_gate, lets_web
from keptopen.webpapers import web_paper
from keptopen.webparts import neighbors, parts_without


class Web:
    """A web, which never changes."""

    def __init__(self, chests, *gates):
        lets_web((chests, gates))
        self._web = (chests, gates)
        self._chests = chests

    @classmethod
    def of(cls, web):
        """The Web of any value that is a web."""
        lets_web(web)
        chests, gates = web
        return Web(chests, *gates)

    @property
    def web_now(self):
        """The web."""
        return self._web

    def least_size(self):
        """The size of the web."""
        return size_of_web(self._web)

    def tree(self):
        """Any tree of bags of the size of the web."""
        return tree_of_bags(self._web)

    def thicket_for(self, m):
        """Any thicket for m, None if the size of the web is at most m."""
        return thicket(self._web, m)

    def paper_for(self, m):
        """Any paper of the size of the web for m."""
        return web_paper(self._web, m)

    def without(self, chest):
        """The Web without a chest and all its gates."""
        require_chest(self._web, chest)
        chests, gates = self._web
        if len(chests) == 1:
            raise NotUsable("chest", chest)
        return Web.of((lot_without(chests, chest), tuple([gate for gate in gates if chest not in gate])))

    def joined(self, gate):
        """The Web in which the two chests of a gate are one, called like the lesser one."""
        require_gate(self._web, gate, True)
        return Web.of(merged_web(self._web, gate))

    def __call__(self, lot):
        return parts_without(self._web, lot)

    def __getitem__(self, at):
        return neighbors(self._web, at)

    def __contains__(self, x):
        return x in self._web[1]

    def __len__(self):
        return len(self._chests)

    def __iter__(self):
        return iter(self._chests)

    def __eq__(self, other):
        return isinstance(other, Web) and self._web == other._web

    def __add__(self, other):
        require_gate(self._web, other, False)
        return Web.of((self._chests, tuple(sorted(self._web[1] + (other,)))))

    def __sub__(self, other):
        require_gate(self._web, other, True)
        return Web.of((self._chests, tuple([gate for gate in self._web[1] if gate != other])))

    def __or__(self, other):
        if not isinstance(other, Web):
            raise NotUsable("other", -1)
        chests = tuple(sorted(set(self._chests + other._chests)))
        return Web.of((chests, tuple(sorted(set(self._web[1] + other._web[1])))))


def require_gate(web, gate, among):
    """Refuses what is no pair of two chests of the web, or is, or is not, among its gates."""
    chests, gates = web
    if not is_gate(chests, gate) or (gate in gates) != among:
        raise NotUsable("gate", -1)


def merged_web(web, gate):
    """The web in which the second chest of the gate is the first one."""
    kept, gone = gate
    chests = tuple([chest for chest in web[0] if chest != gone])
    gates = [tuple([kept if chest == gone else chest for chest in ends]) for ends in web[1] if ends != gate]
    return (chests, tuple(sorted({tuple(sorted(ends)) for ends in gates})))
