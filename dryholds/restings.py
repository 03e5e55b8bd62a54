"""Whether floods have one end, for all cargoes of a rule."""
from dryholds.common import Barred, Point, barred_fault, find_common
from dryholds.damages import check_damages
from dryholds.floods import can_flood, floods_at
from dryholds.plain import is_just
from dryholds.ratios import is_couple, is_sequence
from dryholds.rows import counted_rows
from dryholds.ways import Stopped, holds_of, play_way


class OneEnd:
    """Each damage has one end with each cargo: couples of rows with what bars coming to rest by both."""

    def __init__(self, pairs):
        self.pairs = pairs

    def __eq__(self, other):
        return isinstance(other, OneEnd) and self.pairs == other.pairs


class TwoEnds:
    """A cargo that comes to rest at unlike lots, by one way and by another."""

    def __init__(self, cargo, damage, one, other):
        self.cargo = cargo
        self.damage = damage
        self.one = one
        self.other = other

    def __eq__(self, other):
        return (isinstance(other, TwoEnds) and self.cargo == other.cargo and self.damage == other.damage
                and self.one == other.one and self.other == other.other)


def decide_ends(ship, rule, damages):
    """OneEnd if with each cargo of the rule each damage has one end, otherwise TwoEnds."""
    pairs = []
    for one, other in _couples(ship, rule, check_damages(ship, damages)):
        found = find_common(_both_at_rest(ship, one, other))
        if isinstance(found, Point):
            return TwoEnds(found.cargo, one.damage, holds_of(one.floods), holds_of(other.floods))
        pairs.append((one.damage, one.floods, other.floods, found))
    return OneEnd(tuple(pairs))


def _couples(ship, rule, damages):
    """All couples of rows of floods of one damage that lead to unlike lots."""
    groups = []
    for row in counted_rows(ship, rule, damages, 60):
        if not row.floods:
            groups.append([])
        groups[-1].append(row)
    couples = []
    for rows in groups:
        for at, one in enumerate(rows):
            couples.extend([(one, other) for other in rows[at + 1:] if one.lot != other.lot])
    return couples


def _both_at_rest(ship, one, other):
    """The half-planes of the cargoes that come to rest by both of two rows."""
    return one.halves + _resting_halves(ship, one.lot) + other.halves + _resting_halves(ship, other.lot)


def _resting_halves(ship, lot):
    """The half-planes of the cargoes with which no hold can flood at a lot."""
    return tuple([half.opposite() for _, _, half in floods_at(ship, lot)])


def decided_fault(ship, rule, damages, decided):
    """None if a OneEnd or a TwoEnds is right, otherwise a word."""
    damages = check_damages(ship, damages)
    if isinstance(decided, TwoEnds):
        return _two_ends_fault(ship, rule, damages, decided)
    couples = _couples(ship, rule, damages)
    if not is_sequence(decided.pairs, len(couples), len(couples)):
        return "couples"
    for pair, (one, other) in zip(decided.pairs, couples):
        if not is_sequence(pair, 4, 4) or not is_just(tuple(pair[:3]), (one.damage, one.floods, other.floods)):
            return "couples"
    for pair, (one, other) in zip(decided.pairs, couples):
        barred = pair[3]
        if not isinstance(barred, Barred) or barred_fault(_both_at_rest(ship, one, other), barred) is not None:
            return "barred"
    return None


def _two_ends_fault(ship, rule, damages, decided):
    cargo = decided.cargo
    if not is_couple(cargo) or cargo not in rule:
        return "rule"
    if not any([is_just(decided.damage, damage) for damage in damages]):
        return "damage"
    lots = [play_way(ship, decided.damage, cargo, way) for way in (decided.one, decided.other)]
    if any([isinstance(passed, Stopped) for passed in lots]):
        return "way"
    if any([can_flood(ship, passed[-1], cargo) for passed in lots]):
        return "rest"
    return "same" if lots[0][-1] == lots[1][-1] else None
