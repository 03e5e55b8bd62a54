"""Cells: what closed and strict half-planes have in common, where it is bounded and not empty."""
from dryholds.plain import as_tuples
from dryholds.polygons import cut_polygon, middle_of, polygon_of


class Cell:
    """The couples that are in each of some half-planes; its corners read strict ones as closed."""

    def __init__(self, halves, corners):
        self.halves = as_tuples(halves)
        self.corners = as_tuples(corners)

    def __eq__(self, other):
        return isinstance(other, Cell) and self.halves == other.halves

    def __contains__(self, couple):
        return all([half.holds_cargo(couple) for half in self.halves])

    @property
    def mean(self):
        """The mean of the corners."""
        return middle_of(self.corners)

    def within(self, half):
        """The cell with one more half-plane, None if that is empty."""
        return _filled(Cell(self.halves + (half,), cut_polygon(self.corners, half)))

    def beyond(self, halves):
        """The cells of what is not in all of these half-planes."""
        cells, _ = _parted(self, halves)
        return tuple(cells)


def _filled(cell):
    """The cell, None if it is empty."""
    # Strict half-planes leave nothing exactly if all closed common points are on one of their lines.
    return cell if cell.corners and cell.mean in cell else None


def _parted(cell, halves):
    """A list of the cells beyond half-planes, and the cell of what is in all of them, None if that is empty."""
    cells = []
    rest = cell
    for half in new_halves(halves, cell.halves):
        outer = rest.within(half.opposite())
        if outer is not None:
            cells.append(outer)
        rest = rest.within(half)
        if rest is None:
            return (cells, None)
    return (cells, rest)


def cell_of(halves):
    """The cell of half-planes, None if they have no common couple."""
    return _filled(Cell(halves, polygon_of(halves)))


def new_halves(halves, others):
    """The half-planes that are equal to none of the others and to none before them."""
    fresh = []
    for half in halves:
        if half not in others and half not in fresh:
            fresh.append(half)
    return tuple(fresh)


def cells_left(cells, groups):
    """The cells of what is in one of the cells and in all half-planes of no group."""
    left = list(cells)
    for group in groups:
        kept = []
        for cell in list(left):
            beyond, met = _parted(cell, group)
            kept.extend([cell] if met is None else beyond)
        left = kept
    return tuple(left)
