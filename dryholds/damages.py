"""Damages: lots of holds that are flooded at the beginning."""
from dryholds.errors import BadDamages, BadLot, BadMost
from dryholds.lots import check_lot
from dryholds.ratios import is_sequence, is_whole


def check_damages(ship, damages):
    """The damages as a tuple of tuples."""
    if not is_sequence(damages, 1, 40):
        raise BadDamages(0, "many")
    return tuple([_checked_damage(ship, index, lot) for index, lot in enumerate(damages)])


def _checked_damage(ship, index, lot):
    try:
        return check_lot(ship, lot)
    except BadLot:
        raise BadDamages(index, "lot") from None


def check_most(most, low, high):
    """Refuses what is no whole number within the bounds."""
    if not is_whole(most, low, high):
        raise BadMost(most)


def damage_runs(ship, most):
    """The empty lot and all lots of one to most holds that stand side by side."""
    check_most(most, 0, len(ship))
    runs = [()]
    for many in range(1, most + 1):
        runs.extend([tuple(range(first, first + many)) for first in range(len(ship) - many + 1)])
    return tuple(runs)
