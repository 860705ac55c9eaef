"""Games in which the keeper is never caught."""

from keptopen.errors import Barred, NotUsable
from keptopen.gamelogs import is_look
from keptopen.games import Game


class Sure(Game):
    """A game whose keeper says nothing by which it would be lost."""

    def __init__(self, hall, m):
        super().__init__(hall, m)
        # Something is left of a new game just if the hall has no family.
        if self.left_now is not None:
            raise NotUsable("m", m)

    def barred(self, event):
        """The reason for which a value would be refused, "lost" for a look by which the keeper would be."""
        reason = super().barred(event)
        if reason is None and is_look(event) and event[2] not in self._things_after(self._events, event[1]):
            return "lost"
        return reason

    def _one_after(self, reached, event):
        """The events that were reached and this one, which is not refused."""
        longer = super()._one_after(reached, event)
        if is_look(event):
            things = self._things_after(reached, event[1])
            if event[2] not in things:
                raise Barred(event, things)
        return longer
