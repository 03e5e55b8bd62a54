"""Charts of one rule compared: whether each cargo that one loses is lost in the other, too."""
from dryholds.cells import cell_of, new_halves
from dryholds.common import Point, find_common
from dryholds.errors import OtherRule
from dryholds.plain import as_tuple


class Covered:
    """Each cargo that the one chart loses is lost in the other: one tree for each piece shows it."""

    def __init__(self, trees):
        self.trees = as_tuple(trees)


class Alone:
    """A cargo in a piece of the one chart that is in no piece of the other."""

    def __init__(self, cargo, piece):
        self.cargo = as_tuple(cargo)
        self.piece = piece


class Shut:
    """A tree of half-planes without a common couple: a Barred shows it."""

    def __init__(self, barred):
        self.barred = barred


class Cuts:
    """A tree of half-planes cut by a piece of the other chart: one branch for each part that is not in the piece."""

    def __init__(self, piece, branches):
        self.piece = piece
        self.branches = as_tuple(branches)


def compare_losses(one, other):
    """Covered if each cargo that one chart loses is lost in the other, otherwise Alone."""
    check_rules(one, other)
    trees = []
    for number, piece in enumerate(one.pieces):
        tree = _tree_of(piece.halves, cell_of(piece.halves), other.pieces)
        if isinstance(tree, Point):
            return Alone(tree.cargo, number)
        trees.append(tree)
    return Covered(trees)


def check_rules(one, other):
    """Refuses charts of unlike rules."""
    if not one.rule == other.rule:
        raise OtherRule()


def _tree_of(halves, cell, pieces):
    """The tree of half-planes with this cell, or the Point of a couple in it that is in none of the pieces."""
    if cell is None:
        return Shut(find_common(halves))
    # The mean of a cell is in it. So a piece that has the mean leaves less of the cell.
    mean = cell.mean
    holding = [index for index, piece in enumerate(pieces) if mean in piece]
    if not holding:
        return Point(mean)
    branches = []
    for half in new_halves(pieces[holding[0]].halves, halves):
        beyond = half.opposite()
        branch = _tree_of(cell.halves + (beyond,), cell.within(beyond), pieces)
        if isinstance(branch, Point):
            return branch
        branches.append(branch)
        cell = cell.within(half)
    return Cuts(holding[0], branches)


def same_losses(one, other):
    """Whether two charts lose the same cargoes."""
    return isinstance(compare_losses(one, other), Covered) and isinstance(compare_losses(other, one), Covered)
