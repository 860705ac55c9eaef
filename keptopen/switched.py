"""Halls of switched gates: each chest holds a setting of its gates."""

from keptopen.errors import NotUsable
from keptopen.kinds import is_bits, is_number, is_odd
from keptopen.usable import require_chest, require_odds, require_web


def switched_hall(web, odds):
    """The hall in which each chest has a thing for each of its right settings."""
    require_web(web)
    require_odds(web, odds)
    return hall_of_settings(web, settings_by_chest(web, odds), odds)


def setting_of(web, odds, chest, thing):
    """The setting of this thing of the chest."""
    settings = settings_at(web, odds, chest)
    if not is_number(thing) or thing >= len(settings):
        raise NotUsable("thing", thing)
    return settings[thing]


def thing_of(web, odds, chest, bits):
    """The thing of the chest of which this is the setting."""
    settings = settings_at(web, odds, chest)
    if not is_bits(bits, len(settings[0])) or bits not in settings:
        raise NotUsable("bits", -1)
    return settings.index(bits)


def settings_at(web, odds, chest):
    """The tuple of the right settings of the chest, ascending; refuses what is not usable."""
    require_web(web)
    require_odds(web, odds)
    require_chest(web, chest)
    return right_settings(web, odds, chest)


def right_settings(web, odds, chest):
    """settings_at, for what is known to be usable."""
    gates = gates_at(web, chest)
    if not gates:
        # Right also for odds: such a chest has one thing in any case, and a seal tells that it does not fit.
        return ((),)
    found = [()]
    for _ in gates:
        found = [setting + (bit,) for setting in found for bit in (0, 1)]
    return tuple([setting for setting in found if is_odd(sum(setting)) == (chest in odds)])


def gates_at(web, chest):
    """The list of the gates of the chest, in order of their other chests."""
    # Gates ascend by their lesser chest first, so that this is the order of the web.
    return [gate for gate in web[1] if chest in gate]


def settings_by_chest(web, odds):
    """The right settings of each chest, a dict by chest."""
    return {chest: right_settings(web, odds, chest) for chest in web[0]}


def hall_of_settings(web, settings, odds):
    """switched_hall, for what is known to be a web, its right settings by chest, and odds."""
    chests, gates = web
    seals = [(gate, like_rows(web, settings, gate)) for gate in gates]
    alone = [((chest,), ()) for chest in odds if not gates_at(web, chest)]
    return (chests, tuple([len(settings[chest]) for chest in chests]), tuple(seals + alone))


def like_rows(web, settings, gate):
    """The set of the pairs of things of the two chests of the gate that have the same bit for it."""
    one, other = [bits_for_gate(web, settings, chest, gate) for chest in gate]
    return tuple([(a, b) for a, mine in enumerate(one) for b, yours in enumerate(other) if mine == yours])


def bits_for_gate(web, settings, chest, gate):
    """The bit that each thing of the chest has for a gate of it, in order."""
    place = gates_at(web, chest).index(gate)
    return [setting[place] for setting in settings[chest]]
