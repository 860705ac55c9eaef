"""Where the odd chest of a switched hall may still be thought, so that its keeper is never caught."""

from keptopen.errors import NotUsable
from keptopen.fillings import sound_fillings
from keptopen.kinds import is_odd
from keptopen.settings import bits_told
from keptopen.switched import hall_of_settings, settings_by_chest
from keptopen.usable import is_lot_of, require_chest, require_m, require_web
from keptopen.webpaperchecker import thicket_fault, touching_fault
from keptopen.webparts import parts_left


def hide(web, lots, lot):
    """The part of the web without the lot in which those of the lots lie that have no chest of it."""
    require_web(web)
    if touching_fault(web, lots) is not None:
        raise NotUsable("lots", -1)
    if not is_lot_of(web, lot) or not lots_clear_of(lots, lot):
        raise NotUsable("lot", -1)
    return hiding_part(web, lots, lot)


def switched_family(web, odd, m, lots):
    """A family for m of the switched hall with this odd chest, by a thicket for m in its part of the web."""
    require_web(web)
    require_chest(web, odd)
    require_m(m)
    if thicket_fault(web, m, lots) is not None or not lie_with(web, odd, lots):
        raise NotUsable("lots", -1)
    settings = settings_by_chest(web, (odd,))
    fillings = sound_fillings(hall_of_settings(web, settings, (odd,)), m)
    lot_of = {filling: tuple([chest for chest, _ in filling]) for filling in fillings}
    seen = {lot_of[filling]: True for filling in fillings}
    plain = {lot: plain_parts(web, lots, lot) for lot in seen}
    told = {filling: bits_told(web, settings, filling) for filling in fillings}
    return tuple([one for one in fillings if all_even(web, odd, plain[lot_of[one]], told[one])])


def lots_clear_of(lots, lot):
    """The list of those of the lots that have no chest of this one."""
    return [other for other in lots if not any([chest in lot for chest in other])]


def hiding_part(web, lots, lot):
    """hide, for what is known to be usable."""
    # All of these touch one another, so that one chest of one of them tells the part.
    chest = lots_clear_of(lots, lot)[0][0]
    return [part for part in parts_left(web, lot) if chest in part][0]


def lie_with(web, odd, lots):
    """Whether all lots, each two of which touch, lie in the part of the web that has this chest."""
    return any([odd in part and lots[0][0] in part for part in parts_left(web, ())])


def plain_parts(web, lots, lot):
    """The list of the parts of the web without the lot but for the one that hides."""
    hidden = hiding_part(web, lots, lot)
    return [part for part in parts_left(web, lot) if part != hidden]


def all_even(web, odd, parts, bits):
    """Whether the bits towards each of the parts have an even sum, an odd one towards the part of the odd chest."""
    return all([is_odd(sum(bits_towards(web, part, bits))) == (odd in part) for part in parts])


def bits_towards(web, part, bits):
    """The list of the bits of the gates of which just one chest is in the part."""
    # Gates within the part have no bit, as neither of their chests is in the filling.
    told = [bit for (one, other), bit in zip(web[1], bits) if one in part or other in part]
    return [bit for bit in told if bit is not None]
