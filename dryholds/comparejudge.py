"""Judges of comparisons; they search nothing."""
from dryholds.cells import new_halves
from dryholds.common import Barred, barred_fault
from dryholds.compare import Alone, Covered, Cuts, Shut, check_rules
from dryholds.ratios import is_couple, is_sequence, is_whole


def cover_fault(one, other, covered):
    """None if a Covered shows that each cargo that one chart loses is lost in the other, otherwise a word."""
    check_rules(one, other)
    many = len(one.pieces)
    if not isinstance(covered, Covered) or not is_sequence(covered.trees, many, many):
        return "trees"
    # The trees still to be judged, each with its half-planes, the next one last.
    left = [(tree, piece.halves) for tree, piece in zip(covered.trees, one.pieces)][::-1]
    while left:
        tree, halves = left.pop()
        fault = _tree_fault(tree, halves, other.pieces)
        if fault is not None:
            return fault
        if isinstance(tree, Cuts):
            left.extend(_branches_of(tree, halves, other.pieces)[::-1])
    return None


def _tree_fault(tree, halves, pieces):
    """What is wrong with a tree, apart from its branches."""
    if isinstance(tree, Shut):
        shut = isinstance(tree.barred, Barred) and barred_fault(halves, tree.barred) is None
        return None if shut else "barred"
    if not isinstance(tree, Cuts):
        return "node"
    if not is_whole(tree.piece, 0, len(pieces) - 1):
        return "piece"
    many = len(new_halves(pieces[tree.piece].halves, halves))
    return None if is_sequence(tree.branches, many, many) else "branches"


def _branches_of(cuts, halves, pieces):
    """The branches of a Cuts, each with its half-planes."""
    branches = []
    before = halves
    for branch, half in zip(cuts.branches, new_halves(pieces[cuts.piece].halves, halves)):
        branches.append((branch, before + (half.opposite(),)))
        before = before + (half,)
    return branches


def alone_fault(one, other, alone):
    """None if an Alone is right, otherwise a word."""
    check_rules(one, other)
    if not isinstance(alone, Alone):
        return "alone"
    if not is_whole(alone.piece, 0, len(one.pieces) - 1):
        return "piece"
    if not is_couple(alone.cargo) or alone.cargo not in one.pieces[alone.piece]:
        return "cargo"
    if any([alone.cargo in piece for piece in other.pieces]):
        return "covered"
    return None
