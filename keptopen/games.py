"""A game between an opener and a keeper."""

from keptopen.errors import InvalidEvent, NotUsable, NothingToUndo
from keptopen.fillings import answers_to, breaks_none, broken_seals, has_chest, state_of
from keptopen.gamelogs import is_event, is_look
from keptopen.plays import barring_looks, look_left, moves_left
from keptopen.usable import is_chest_of, is_thing_of, require_hall, require_m


class Game:
    """A game in a hall in which m chests may stand open."""

    MOST = 24

    def __init__(self, hall, m):
        require_hall(hall)
        require_m(m)
        self._hall = hall
        self._m = m
        self._barring = barring_looks(hall, m)
        self._events = ()
        self._started = 0
        self._finished = 0

    @property
    def hall_now(self):
        """The hall."""
        return self._hall

    @property
    def m_now(self):
        """How many chests may stand open."""
        return self._m

    @property
    def filling_now(self):
        """The filling of the chests that stand open, each with what was said of it."""
        return filling_after(self._events)

    @property
    def broken_now(self):
        """The set of the indexes of the seals that are broken."""
        return broken_seals(self._hall, filling_after(self._events))

    @property
    def moves_now(self):
        """How many of the events were looks."""
        return len([event for event in self._events if is_look(event)])

    @property
    def left_now(self):
        """The least number of moves within which the keeper is lost, None if there is none."""
        return left_from(self._hall, self._m, self._barring, filling_after(self._events))

    def state(self):
        """The state: "caught" if a seal is broken, "going" otherwise."""
        return state_of(self._hall, filling_after(self._events))

    def advice(self):
        """Any pair of a chest to shut or None, and a chest to look into, by which the keeper is lost so soon."""
        filling = filling_after(self._events)
        if not breaks_none(self._hall, filling):
            return None
        return look_left(self._hall, self._m, self._barring, filling)

    def things_now(self, chest):
        """The set of the things of the chest by which a keeper need never be caught."""
        filling = filling_after(self._events)
        if not is_chest_of(self._hall, chest) or has_chest(filling, chest):
            raise NotUsable("chest", chest)
        if len(filling) >= self._m or not breaks_none(self._hall, filling):
            raise NotUsable("chest", chest)
        return self._things_after(self._events, chest)

    def look(self, chest, thing):
        """The chest is looked into, and the keeper says that this thing is in it; the state after it."""
        return self._counted(("look", chest, thing))

    def shut(self, chest):
        """The chest is shut; the state after it."""
        return self._counted(("shut", chest))

    def apply(self, event):
        """Applies an event; the state after it."""
        return self._counted(event)

    def barred(self, event):
        """The reason for which a value would be refused as an event, None if it would not be."""
        return reason_against(self._hall, self._m, self.MOST, self._events, event)

    def tried(self, *events):
        """The filling, the moves that are left and the state as after these events; nothing changes."""
        filling = filling_after(self._all_after(events))
        left = left_from(self._hall, self._m, self._barring, filling)
        return (filling, left, state_of(self._hall, filling))

    def undo(self):
        """Takes back the last event, and returns it."""
        finished = self._finished + 1
        self._started = self._started + 1
        try:
            if len(self._events) == 0:
                raise NothingToUndo(0)
            event = self._events[-1]
            self._events = self._events[:-1]
            return event
        finally:
            self._finished = finished

    def do_all(self, *events, keep=False):
        """Applies events in order; how many they are. If one is refused, those ahead of it stay only with keep."""
        finished = self._finished + 1
        self._started = self._started + 1
        try:
            if not isinstance(keep, bool):
                raise NotUsable("keep", keep)
            if keep:
                for event in events:
                    self._events = self._one_after(self._events, event)
            else:
                self._events = self._all_after(events)
            return len(events)
        finally:
            self._finished = finished

    def tally(self):
        """How many calls of look, shut, apply, undo and do_all were started, and how many were finished."""
        return (self._started, self._finished)

    def log(self):
        """The log, with the events that were not undone."""
        return (("game", self._hall, self._m),) + self._events

    def _counted(self, event):
        """Applies an event, as one call; the state after it."""
        finished = self._finished + 1
        self._started = self._started + 1
        try:
            self._events = self._one_after(self._events, event)
            return self.state()
        finally:
            self._finished = finished

    def _all_after(self, events):
        """The events until now and these, none of which is refused."""
        reached = self._events
        for event in events:
            reached = self._one_after(reached, event)
        return reached

    def _one_after(self, reached, event):
        """The events that were reached and this one, which is not refused."""
        reason = reason_against(self._hall, self._m, self.MOST, reached, event)
        if reason is not None:
            raise InvalidEvent(event, reason)
        return reached + (event,)

    def _things_after(self, reached, chest):
        """The set of the things of a shut chest with which the filling that was reached is not lost."""
        answers = answers_to(self._hall, filling_after(reached), chest)
        told = [left_from(self._hall, self._m, self._barring, longer) for longer in answers]
        return tuple([thing for thing, left in enumerate(told) if left is None])

    def __contains__(self, x):
        return is_event(x) and x in self._events

    def __len__(self):
        return len(self._events)

    def __iter__(self):
        return iter(self._events)

    def __eq__(self, other):
        if not isinstance(other, Game) or self._hall != other._hall or self._m != other._m:
            return False
        return self._events == other._events


def game_after(hall, m, events):
    """A new Game after these events, none of which is refused, and no call of which counts."""
    game = Game(hall, m)
    game._events = game._all_after(events)
    return game


def filling_after(events):
    """The filling of the chests that stand open after these events."""
    held = {}
    for event in events:
        # What was in a chest that is shut is forgotten.
        held[event[1]] = event[2] if is_look(event) else None
    return tuple(sorted([(chest, thing) for chest, thing in held.items() if thing is not None]))


def left_from(hall, m, barring, filling):
    """The least number of moves within which a filling of at most m chests is lost, None if there is none."""
    if not breaks_none(hall, filling):
        return 0
    return moves_left(hall, m, barring, filling)


def reason_against(hall, m, most, reached, event):
    """The first reason for which any value is refused after these events, None if it is not."""
    if not is_event(event):
        return "shape"
    if len(reached) >= most:
        return "full"
    filling = filling_after(reached)
    if not breaks_none(hall, filling):
        return "caught"
    if not is_chest_of(hall, event[1]):
        return "chest"
    if not is_look(event):
        return None if has_chest(filling, event[1]) else "shut"
    if has_chest(filling, event[1]):
        return "open"
    if len(filling) >= m:
        return "many"
    return None if is_thing_of(hall, event[1], event[2]) else "thing"
