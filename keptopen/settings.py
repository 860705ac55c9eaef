"""Settings of all gates of a web at once."""

from keptopen.errors import NotUsable
from keptopen.fillingchecker import require_filling
from keptopen.fillings import breaks_none
from keptopen.kinds import is_odd
from keptopen.oddparts import parts_with_odd
from keptopen.switched import gates_at, hall_of_settings, settings_by_chest
from keptopen.usable import is_chest_of, require_bits, require_odds, require_web
from keptopen.webparts import joined_by, parts_left


def odds_of(web, bits):
    """The set of the chests whose settings by the bits have an odd sum."""
    require_web(web)
    require_bits(web, bits)
    return odd_chests(web, bits)


def turned_along(web, bits, way):
    """The bits in which the gates of the way are turned, each as often as the way takes it."""
    require_web(web)
    require_bits(web, bits)
    require_way(web, way)
    taken = [gate_between(way[k], way[k + 1]) for k in range(len(way) - 1)]
    return tuple([1 - bit if is_odd(taken.count(gate)) else bit for gate, bit in zip(web[1], bits)])


def some_settings(web, odds):
    """Any bits whose odd chests are odds, None if there are none."""
    require_web(web)
    require_odds(web, odds)
    return None if parts_with_odd(web, odds) else bits_with_odds(web, odds)


def many_settings(web, odds):
    """How many bits there are whose odd chests are odds."""
    require_web(web)
    require_odds(web, odds)
    if parts_with_odd(web, odds):
        return 0
    # The gates towards one chest of each part set all others right, whatever the rest of the gates are.
    chests, gates = web
    return 1 << (len(gates) - len(chests) + len(parts_left(web, ())))


def filling_by(web, bits):
    """The whole filling of the switched hall for the odd chests whose things have the settings by the bits."""
    require_web(web)
    require_bits(web, bits)
    settings = settings_by_chest(web, odd_chests(web, bits))
    return tuple([(chest, settings[chest].index(setting_by(web, bits, chest))) for chest in web[0]])


def bits_by(web, odds, filling):
    """For each gate the bit that a chest of it in the filling has for it, None if neither is in the filling."""
    require_web(web)
    require_odds(web, odds)
    settings = settings_by_chest(web, odds)
    hall = hall_of_settings(web, settings, odds)
    require_filling(hall, filling)
    if not breaks_none(hall, filling):
        raise NotUsable("filling", -1)
    return bits_told(web, settings, filling)


def require_way(web, way):
    """Refuses what is no tuple of one or more chests, a gate joining each with the next one."""
    if not isinstance(way, tuple) or len(way) == 0 or not all([is_chest_of(web, chest) for chest in way]):
        raise NotUsable("way", -1)
    if not all([gate_between(way[k], way[k + 1]) in web[1] for k in range(len(way) - 1)]):
        raise NotUsable("way", -1)


def gate_between(one, other):
    """The pair of two chests, the lesser one first."""
    return (min(one, other), max(one, other))


def odd_chests(web, bits):
    """odds_of, for what is known to be a web and bits."""
    return tuple([chest for chest in web[0] if is_odd(sum(setting_by(web, bits, chest)))])


def setting_by(web, bits, chest):
    """The setting of the chest by the bits."""
    return tuple([bit for gate, bit in zip(web[1], bits) if chest in gate])


def bits_told(web, settings, filling):
    """bits_by, for a filling that is known to be sound; settings are the right ones by chest."""
    told = {}
    for chest, thing in filling:
        for gate, bit in zip(gates_at(web, chest), settings[chest][thing]):
            told[gate] = bit
    return tuple([told.get(gate) for gate in web[1]])


def bits_with_odds(web, odds):
    """Any bits whose odd chests are odds, of which each part of the web has an even number."""
    wrong = {}
    for chest in odds:
        wrong[chest] = True
    turned = {}
    for part in parts_left(web, ()):
        # From afar inwards each chest is set right by its gate to a nearer one, and the nearest one is right then.
        for chest, nearer in nearer_pairs(web, part[0])[::-1]:
            if wrong.get(chest, False):
                turned[gate_between(chest, nearer)] = True
                wrong[nearer] = not wrong.get(nearer, False)
    return tuple([1 if gate in turned else 0 for gate in web[1]])


def nearer_pairs(web, start):
    """A pair (chest, nearer) for each other chest of the part of the start, as a list, nearer ones ahead."""
    joined = joined_by(web[1])
    reached = {start: True}
    pairs = []
    waiting = [start]
    while waiting:
        here = waiting.pop()
        for chest in joined.get(here, []):
            if chest not in reached:
                reached[chest] = True
                pairs.append((chest, here))
                waiting.append(chest)
    return pairs
