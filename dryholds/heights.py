"""The highest and the lowest line at a place, over all rows of floods and all cargoes of a rule."""
from dryholds.damages import check_damages, check_most
from dryholds.lots import check_place
from dryholds.postures import Tips, line_row
from dryholds.ratios import ONE, compare, negative, plus, times
from dryholds.rows import counted_rows


class Reached:
    """A height of the line, with the cargo and the row of floods that reach it."""

    def __init__(self, height, cargo, damage, floods):
        self.height = height
        self.cargo = cargo
        self.damage = damage
        self.floods = floods


def highest_line(ship, rule, damages, place, *, most=3000):
    """Reached with the greatest height of the line at a place, or Tips()."""
    return _farthest(ship, rule, damages, place, most, ONE)


def lowest_line(ship, rule, damages, place, *, most=3000):
    """Reached with the least height of the line at a place, or Tips()."""
    return _farthest(ship, rule, damages, place, most, negative(ONE))


def _farthest(ship, rule, damages, place, most, way):
    """Reached with the height that is farthest on a way: 1 is up and -1 is down."""
    damages = check_damages(ship, damages)
    check_place(place)
    check_most(most, 1, 3000)
    farthest = None
    lines = {}
    for row in counted_rows(ship, rule, damages, most):
        if row.lot not in lines:
            lines[row.lot] = line_row(ship, row.lot, place)
        line = lines[row.lot]
        if isinstance(line, Tips):
            return line
        for corner in row.corners:
            height = _height_of(line, corner)
            if farthest is None or compare(times(way, height), times(way, farthest.height)) > 0:
                farthest = Reached(height, corner, row.damage, row.floods)
    return farthest


def _height_of(line, cargo):
    """The height that a row of line_row gives with a cargo."""
    p, q, r = line
    return plus(plus(times(p, cargo[0]), times(q, cargo[1])), r)
