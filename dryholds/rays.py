"""Rays: what becomes of a ship when her load grows about its centre."""
from dryholds.errors import BadFactor
from dryholds.floods import floods_at
from dryholds.lots import check_cargo, check_lot, lot_with
from dryholds.postures import Tips, loaded, posture_of
from dryholds.ratios import ZERO, compare, greatest_of, is_between, least_of, minus, negative, over, plus, times
from dryholds.wrongs import wrongs_of


class Bearing:
    """The factor above which a load loses the ship, and whether that factor itself does."""

    def __init__(self, factor, reached):
        self.factor = factor
        self.reached = reached

    def __eq__(self, other):
        return isinstance(other, Bearing) and self.factor == other.factor and self.reached == other.reached


def load_of(ship, cargo):
    """Own weight and moment and those of the cargo together."""
    return loaded(ship, check_cargo(cargo))


def cargo_at(ship, cargo, factor):
    """The cargo whose load is a factor times the load of another."""
    weight, moment = load_of(ship, cargo)
    if not is_between(factor, ZERO):
        raise BadFactor(factor)
    return (minus(times(factor, weight), ship.own[0]), minus(times(factor, moment), ship.own[1]))


def deepening_of(ship, lot, cargo):
    """The load's weight times s plus its moment times t, or Tips()."""
    posture = posture_of(ship, lot, cargo)
    if isinstance(posture, Tips):
        return posture
    weight, moment = load_of(ship, cargo)
    return plus(times(weight, posture.s), times(moment, posture.t))


def least_factors(ship, damage, cargo):
    """For each lot that can come with the load taken some factor times, the least such factor from 0."""
    damage = check_lot(ship, damage)
    cargo = check_cargo(cargo)
    factors = {damage: ZERO}
    fresh = [damage]
    while fresh:
        behind = {}
        for lot in fresh:
            for hold, _, half in floods_at(ship, lot):
                bound = _bound_of(ship, half, cargo)
                if bound is not None:
                    later = lot_with(ship, lot, hold)
                    factor = greatest_of([factors[lot], bound])
                    behind[later] = least_of([factor, behind.get(later, factor)])
        fresh = sorted(behind)
        for lot in fresh:
            factors[lot] = behind[lot]
    return tuple([(lot, factors[lot]) for lot in factors])


def _bound_of(ship, half, cargo):
    """The least factor from 0 above which the load is in the half-plane of an edge or a wrong end, None if there is
    none.

    With a load a factor times as great the line's height over the keel is that factor times as great, while the
    height that it must come to stays.
    """
    height = negative(half.excess_at((negative(ship.own[0]), negative(ship.own[1]))))
    line = plus(half.excess_at(cargo), height)
    if compare(line, ZERO) > 0:
        return over(height, line)
    # What holds at the bound itself is an edge; and a ship that tips does so with every load.
    if compare(height, ZERO) < 0 or height == ZERO and line == ZERO and not half.strict:
        return ZERO
    return None


def bearing_of(ship, damage, cargo):
    """The Bearing of a load, None if it loses the ship with no factor."""
    losses = []
    for lot, factor in least_factors(ship, damage, cargo):
        for _, half in wrongs_of(ship, lot):
            bound = _bound_of(ship, half, cargo)
            if bound is not None:
                losses.append((greatest_of([factor, bound]), compare(factor, bound) > 0))
    if not losses:
        return None
    least = least_of([factor for factor, _ in losses])
    return Bearing(least, any([reached for factor, reached in losses if factor == least]))
