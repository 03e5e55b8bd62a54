"""Fits: the rows of floods, and the cargoes of a rule, that show what was read."""
from dryholds.damages import check_damages
from dryholds.errors import BadFloods
from dryholds.halfplanes import HalfPlane
from dryholds.plain import as_tuple, as_tuples, is_just
from dryholds.polygons import cut_polygon
from dryholds.postures import Tips, line_rows
from dryholds.ratios import is_couple, minus, negative
from dryholds.rows import flood_rows, row_along


class Fit:
    """A row of floods, with the half-planes of the cargoes that go through it and show the readings."""

    def __init__(self, damage, floods, lot, halves, corners):
        self.damage = as_tuples(damage)
        self.floods = as_tuples(floods)
        self.lot = as_tuples(lot)
        self.halves = as_tuples(halves)
        self.corners = as_tuples(corners)

    def __eq__(self, other):
        return (isinstance(other, Fit) and self.damage == other.damage and self.floods == other.floods
                and self.lot == other.lot and self.halves == other.halves and self.corners == other.corners)

    def __contains__(self, cargo):
        return all([half.holds_cargo(cargo) for half in self.halves])


class Filling:
    """A damage, a row of floods, the lot behind it, and a cargo."""

    def __init__(self, damage, floods, lot, cargo):
        self.damage = as_tuples(damage)
        self.floods = as_tuples(floods)
        self.lot = as_tuples(lot)
        self.cargo = as_tuple(cargo)

    def __eq__(self, other):
        return (isinstance(other, Filling) and self.damage == other.damage and self.floods == other.floods
                and self.lot == other.lot and self.cargo == other.cargo)


def filling_in(row, cargo):
    """The filling of a row of floods, or of a fit, with a cargo."""
    return Filling(row.damage, row.floods, row.lot, cargo)


def fitting_rows(ship, rule, damages, readings):
    """A Fit for each damage and row of floods that has some filling that shows the readings."""
    fits = []
    shown = {}
    for damage in check_damages(ship, damages):
        for row in flood_rows(ship, rule, damage):
            if row.lot not in shown:
                shown[row.lot] = _shown_halves(ship, row.lot, readings)
            halves = shown[row.lot]
            if halves is not None:
                corners = _cut_by(row.corners, halves)
                if corners:
                    fits.append(Fit(row.damage, row.floods, row.lot, row.halves + halves, corners))
    return tuple(fits)


def _shown_halves(ship, lot, readings):
    """The half-planes of the cargoes that show the readings with a lot, None if she tips."""
    lines = line_rows(ship, lot, [place for place, _, _ in readings])
    if isinstance(lines, Tips):
        return None
    halves = []
    for (p, q, r), (_, low, high) in zip(lines, readings.rows):
        halves.append(HalfPlane(p, q, minus(low, r)))
        halves.append(HalfPlane(negative(p), negative(q), minus(r, high)))
    return tuple(halves)


def _cut_by(corners, halves):
    """The corners of the part of a polygon that is in all of these half-planes."""
    for half in halves:
        corners = cut_polygon(corners, half)
    return corners


def filling_fault(ship, rule, damages, readings, filling):
    """None if a filling shows the readings, otherwise a word."""
    damages = check_damages(ship, damages)
    if not isinstance(filling, Filling):
        return "filling"
    if not any([is_just(filling.damage, damage) for damage in damages]):
        return "damage"
    if not is_couple(filling.cargo) or filling.cargo not in rule:
        return "cargo"
    try:
        row = row_along(ship, rule, filling.damage, filling.floods)
    except BadFloods:
        return "floods"
    if not all([half.holds_cargo(filling.cargo) for half in row.halves]):
        return "floods"
    if not is_just(filling.lot, row.lot):
        return "lot"
    halves = _shown_halves(ship, row.lot, readings)
    if halves is None or not all([half.holds_cargo(filling.cargo) for half in halves]):
        return "line"
    return None
