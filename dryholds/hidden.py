"""Hidden holds: fillings that no reading of the line can tell apart."""
from dryholds.common import Point, find_common
from dryholds.damages import check_damages
from dryholds.fits import filling_in
from dryholds.lots import check_hold
from dryholds.polygons import halves_of, hull_of
from dryholds.postures import Posture, cargo_of, does_tip, height_at, posture_of
from dryholds.ratios import make_ratio
from dryholds.rows import flood_rows


def parting_place(ship, one, other):
    """The first of the ship's ends at which the lines of two fillings differ in height, None if there is none."""
    lines = [posture_of(ship, filling.lot, filling.cargo) for filling in (one, other)]
    for end in ship.ends:
        heights = [height_at(line, make_ratio(end)) for line in lines]
        if heights[0] != heights[1]:
            return make_ratio(end)
    return None


def hidden_hold(ship, rule, damages, hold):
    """A filling with the hold flooded and one without it that have the same line, None if there are none."""
    damages = check_damages(ship, damages)
    check_hold(ship, hold)
    flooded, others = _rows_with_lines(ship, rule, damages, hold)
    for one, halves in flooded:
        for other, its_halves in others:
            found = find_common(halves + its_halves)
            if isinstance(found, Point):
                s, t = found.cargo
                return tuple([filling_in(row, cargo_of(ship, row.lot, Posture(s, t))) for row in (one, other)])
    return None


def _rows_with_lines(ship, rule, damages, hold):
    """The rows of floods with a hold flooded, and those without it, each with the half-planes of its lines (s, t)."""
    flooded = []
    others = []
    told = {}
    for damage in damages:
        for row in flood_rows(ship, rule, damage):
            # Rows with equal lots and corners have the same lines, so the first of them stands for all.
            key = (row.lot, row.corners)
            if key not in told and not does_tip(ship, row.lot):
                told[key] = True
                entry = (row, _halves_of_lines(ship, row))
                if hold in row.lot:
                    flooded.append(entry)
                else:
                    others.append(entry)
    return (flooded, others)


def _halves_of_lines(ship, row):
    """The half-planes of the couples (s, t) that are lines of the cargoes of a row."""
    # A line is affine in the cargo, so lines of a polygon's cargoes are a polygon again.
    lines = [posture_of(ship, row.lot, corner) for corner in row.corners]
    return halves_of(hull_of([(line.s, line.t) for line in lines]))
