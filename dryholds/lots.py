"""Lots, ascending tuples of flooded holds, and the checks that all parts share."""
from dryholds.errors import BadCargo, BadHold, BadLot, BadPlace
from dryholds.plain import ascending_tuples
from dryholds.ratios import ZERO, is_between, is_ratio, is_sequence, is_whole


def check_lot(ship, lot):
    """The lot as a tuple."""
    if not is_sequence(lot):
        raise BadLot()
    last = -1
    for hold in lot:
        if not is_whole(hold, last + 1, len(ship) - 1):
            raise BadLot()
        last = hold
    return tuple(lot)


def check_cargo(cargo):
    """The cargo as a tuple."""
    if not is_sequence(cargo, 2, 2):
        raise BadCargo("pair")
    if not is_between(cargo[0], ZERO):
        raise BadCargo("weight")
    if not is_ratio(cargo[1]):
        raise BadCargo("moment")
    return tuple(cargo)


def check_hold(ship, hold):
    """The hold."""
    if not is_whole(hold, 0, len(ship) - 1):
        raise BadHold(hold)
    return hold


def check_place(place):
    """The place."""
    if not is_ratio(place):
        raise BadPlace(place)
    return place


def all_lots(ship):
    """Yields all lots: lots of fewer holds first, those of equal size ascending."""
    lots = ascending_tuples(len(ship))
    yield from lots


def lot_with(ship, lot, hold):
    """The lot with one more hold."""
    lot = check_lot(ship, lot)
    if check_hold(ship, hold) in lot:
        raise BadHold(hold)
    return tuple(sorted([*lot, hold]))
