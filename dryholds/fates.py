"""Fates: whether a ship of which something was read can still be lost."""
from dryholds.cells import Cell
from dryholds.charts import pieces_of
from dryholds.fits import filling_in
from dryholds.polygons import middle_of
from dryholds.rows import rows_onward
from dryholds.surely import check_fits


class Fate:
    """All fillings that show what was read have one fate: safe or lost."""

    def __init__(self, name):
        self.name = name

    def __eq__(self, other):
        return isinstance(other, Fate) and self.name == other.name


class Unsure:
    """A filling that cannot be lost any more, and one that still can."""

    def __init__(self, safe, lost):
        self.safe = safe
        self.lost = lost

    def __eq__(self, other):
        return isinstance(other, Unsure) and self.safe == other.safe and self.lost == other.lost


def fate_of(ship, fits):
    """Fate if all fillings of all fits have one fate, otherwise Unsure."""
    check_fits(fits)
    safe = lost = None
    known = {}
    for fit in fits:
        pieces = _lost_pieces(ship, fit, known)
        if lost is None and pieces:
            lost = filling_in(fit, middle_of(pieces[0].corners))
        if safe is None:
            cargo = _couple_outside(Cell(fit.halves, fit.corners), pieces)
            safe = None if cargo is None else filling_in(fit, cargo)
        if safe is not None and lost is not None:
            return Unsure(safe, lost)
    return Fate("safe" if lost is None else "lost")


def _lost_pieces(ship, fit, known):
    """The pieces of the cargoes of a fit that can still be lost, one for each later row of floods and wrong end."""
    pieces = []
    for row in rows_onward(ship, fit.lot, fit.halves, fit.corners):
        pieces.extend(pieces_of(ship, 0, row, known))
    return pieces


def _couple_outside(cell, pieces):
    """A couple of a cell that is in none of some pieces, None if there is none."""
    left = [cell]
    while left:
        part = left.pop()
        # The mean of a cell is in it. So a piece that has the mean leaves less of the part.
        mean = part.mean
        holding = [piece for piece in pieces if mean in piece]
        if not holding:
            return mean
        left.extend(part.beyond(holding[0].halves))
    return None
