"""Judges of verdicts; they search nothing."""
from dryholds.common import Barred, barred_fault
from dryholds.damages import check_damages
from dryholds.errors import BadFloods
from dryholds.lots import lot_with
from dryholds.plain import is_just
from dryholds.ratios import is_couple, is_sequence
from dryholds.rows import row_along
from dryholds.verdict import Node, known_floods, known_wrongs
from dryholds.wrongs import wrongs_of


def tree_fault(ship, rule, damages, trees):
    """None if trees show that a ship is safe, otherwise a word."""
    damages = check_damages(ship, damages)
    if not is_sequence(trees, len(damages), len(damages)) or not all([isinstance(tree, Node) for tree in trees]):
        return "many"
    known = {}
    for damage, tree in zip(damages, trees):
        fault = _node_fault(ship, damage, rule.halves, tree, known)
        if fault is not None:
            return fault
    return None


def _node_fault(ship, lot, halves, node, known):
    """What is wrong with a node, or with those behind it, whose row leads to a lot by way of half-planes."""
    if not is_just(node.lot, lot):
        return "lot"
    wrongs = known_wrongs(ship, lot, known)
    floods = known_floods(ship, lot, known)
    if not is_sequence(node.wrongs, len(wrongs), len(wrongs)) or not _are_told(node.onward, floods):
        return "missing"
    for (_, half), barred in zip(wrongs, node.wrongs):
        if not _is_barred(halves, half, barred):
            return "barred"
    parts = [part for _, _, part in node.onward]
    for (_, _, half), part in zip(floods, parts):
        if not isinstance(part, Node) and not _is_barred(halves, half, part):
            return "barred"
    for (hold, _, half), part in zip(floods, parts):
        if isinstance(part, Node):
            fault = _node_fault(ship, lot_with(ship, lot, hold), halves + (half,), part, known)
            if fault is not None:
                return fault
    return None


def _are_told(onward, floods):
    """Whether these are triples with just the holds and edges of floods."""
    if not is_sequence(onward, len(floods), len(floods)):
        return False
    return all([is_sequence(triple, 3, 3) and is_just(tuple(triple[:2]), flood[:2])
                for triple, flood in zip(onward, floods)])


def _is_barred(halves, half, thing):
    """Whether a thing is a Barred that shows that half-planes and one more behind them have no common point."""
    return isinstance(thing, Barred) and barred_fault([*halves, half], thing) is None


def lost_fault(ship, rule, damages, lost):
    """None if a Lost is right, otherwise a word; it need not be the first one."""
    damages = check_damages(ship, damages)
    if not any([is_just(lost.damage, damage) for damage in damages]):
        return "damage"
    if not is_couple(lost.cargo) or lost.cargo not in rule:
        return "rule"
    try:
        row = row_along(ship, rule, lost.damage, lost.floods)
    except BadFloods:
        return "flood"
    if not all([half.holds_cargo(lost.cargo) for half in row.halves]):
        return "flood"
    for name, half in wrongs_of(ship, row.lot):
        if is_just(lost.wrong, name) and half.holds_cargo(lost.cargo):
            return None
    return "wrong"
