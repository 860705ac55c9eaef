"""What the tests of games share: a game straight from the words, events of all kinds, and halls to play in."""

import functools

from support import ANY, DRAWN, FREE, HALF, NEVER, ODD, PAIR, ROW, SAME, SPLIT, TIED, TIGHT, TRIO, slow_fillings, slow_parts, slow_sound

CHAIN = (
    ("a", "b", "c", "d"),
    (2,) * 4,
    ((("a",), ((0,),)), (("a", "b"), SAME), (("b", "c"), SAME), (("c", "d"), SAME), (("d",), ((1,),))),
)
PLAYED = (PAIR, ODD, CHAIN, TIED, TRIO, ROW, HALF, NEVER, SPLIT, FREE) + DRAWN[:25] + TIGHT[:8]


@functools.lru_cache(None)
def slow_lost(hall, m):
    """Within how many moves each filling of at most m chests is lost, straight from [78]; a dict of those that are."""
    ones = [one for one in slow_fillings(hall) if len(one) <= m]
    found = {one: 0 for one in ones if not slow_sound(hall, one)}
    number = 0
    while True:
        number += 1
        fresh = [one for one in ones if one not in found and any(slow_loses(hall, m, one, chest, found) for chest in hall[0])]
        # What has a lost part is lost, too.
        fresh += [one for one in ones if one not in found and any(part in fresh for part in slow_parts(one))]
        if not fresh:
            return found
        found.update({one: number for one in fresh})


def slow_loses(hall, m, filling, chest, found):
    """Whether a chest that the filling lacks is such that all fillings with it are found."""
    if len(filling) >= m or chest in dict(filling):
        return False
    size = hall[1][hall[0].index(chest)]
    return all(tuple(sorted(filling + ((chest, thing),))) in found for thing in range(size))


def has_event_form(thing):
    """Whether any value is an event by form, straight from [74]."""
    if type(thing) is not tuple or len(thing) not in (2, 3) or type(thing[1]) is not str:
        return False
    name = thing[1]
    if not 1 <= len(name) <= 8 or not all("a" <= letter <= "z" for letter in name):
        return False
    if len(thing) == 2:
        return type(thing[0]) is str and thing[0] == "shut"
    return type(thing[0]) is str and thing[0] == "look" and type(thing[2]) is int and thing[2] >= 0


class SlowGame:
    """A game that goes by its events alone."""

    def __init__(self, hall, m, most=24, sure=False):
        self.hall, self.m, self.most, self.sure = hall, m, most, sure
        self.events = []

    def filling(self, events):
        """What stands open after these events."""
        told = {}
        for event in events:
            if event[0] == "look":
                told[event[1]] = event[2]
            else:
                del told[event[1]]
        return tuple(sorted(told.items()))

    def left(self, events):
        """What is left after these events."""
        return slow_lost(self.hall, self.m).get(self.filling(events))

    def state(self, events):
        """The state after these events."""
        return "going" if slow_sound(self.hall, self.filling(events)) else "caught"

    def things(self, events, chest):
        """The things of a chest by which the keeper is not lost."""
        filling, size = self.filling(events), self.hall[1][self.hall[0].index(chest)]
        longer = [tuple(sorted(filling + ((chest, thing),))) for thing in range(size)]
        return tuple([thing for thing in range(size) if longer[thing] not in slow_lost(self.hall, self.m)])

    def reason(self, events, event):
        """The first reason of [77] and [82] for which an event is refused after these."""
        if not has_event_form(event):
            return "shape"
        if len(events) >= self.most:
            return "full"
        if self.state(events) == "caught":
            return "caught"
        if event[1] not in self.hall[0]:
            return "chest"
        held = dict(self.filling(events))
        if event[0] == "shut":
            return None if event[1] in held else "shut"
        if event[1] in held:
            return "open"
        if len(held) == self.m:
            return "many"
        if event[2] >= self.hall[1][self.hall[0].index(event[1])]:
            return "thing"
        if self.sure and event[2] not in self.things(events, event[1]):
            return "lost"
        return None

    def run(self, events):
        """The events until now and the new ones up to the first refused one, and the reason for that one, or None."""
        reached = list(self.events)
        for event in events:
            reason = self.reason(reached, event)
            if reason is not None:
                return reached, reason
            reached.append(event)
        return reached, None


# Values that are no events.
NO_EVENTS = ANY + (
    ("look",), ("look", "a"), ("look", "a", 0, 0), ("look", "a", -1), ("look", "a", True), ("look", "a", "0"), ("look", "a", None),
    ["look", "a", 0], ("look", ["a"], 0), ("look", "A", 0), ("look", "", 0), ("look", "abcdefghi", 0), ("look", 0, 0),
    ("shut",), ("shut", "a", 0), ["shut", "a"], ("shut", "a b"), ("shut", 1), ("shut", None), ("shut", ("a",)), ("open", "a"),
    ("Look", "a", 0), ("look a 0",), "look a 0", "shut a", (("look", "a", 0),), ("a", "look", 0), (True, "a", 0), ("shut", "a", "b"),
)


def drawn_event(draw, hall, filling):
    """An event, often a right one, but otherwise whatever comes."""
    kind = draw.below(20)
    chest = "q" if kind == 0 else hall[0][draw.below(len(hall[0]))]
    if kind == 1:
        return NO_EVENTS[draw.below(len(NO_EVENTS))]
    if kind < 8 and filling:
        return ("shut", filling[draw.below(len(filling))][0])
    if kind == 8:
        return ("shut", chest)
    size = hall[1][hall[0].index(chest)] if chest in hall[0] else 2
    return ("look", chest, draw.below(size + (kind == 9)))
