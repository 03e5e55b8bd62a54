"""Forks: whether floods that part at a lot meet again."""
from dryholds.lots import lot_with
from dryholds.lotsfrom import checked_floods, least_rows, lots_from
from dryholds.plain import is_just
from dryholds.ratios import is_sequence
from dryholds.ways import Stopped, holds_of, play_way


class Joined:
    """Rows that tell how floods meet again, whatever two holds flood at whatever lot."""

    def __init__(self, rows):
        self.rows = rows

    def __eq__(self, other):
        return isinstance(other, Joined) and self.rows == other.rows


class Fork:
    """A lot, and two holds behind which the floods never meet again."""

    def __init__(self, lot, one, other, one_lots, other_lots):
        self.lot = lot
        self.one = one
        self.other = other
        self.one_lots = one_lots
        self.other_lots = other_lots

    def __eq__(self, other):
        return (isinstance(other, Fork) and self.lot == other.lot and self.one == other.one
                and self.other == other.other and self.one_lots == other.one_lots
                and self.other_lots == other.other_lots)


def meeting_of(ship, damage, cargo):
    """Joined with the ways that meet behind all couples of floods, or the first Fork."""
    floods = checked_floods(ship, damage, cargo)
    met = []
    for lot, one, other in _couples(floods):
        one_rows = least_rows(ship, floods, lot_with(ship, lot, one))
        other_rows = least_rows(ship, floods, lot_with(ship, lot, other))
        common = [later for later in floods if later in one_rows and later in other_rows]
        if not common:
            return Fork(lot, one, other, tuple([later for later in floods if later in one_rows]),
                        tuple([later for later in floods if later in other_rows]))
        met.append((lot, one, other, holds_of(one_rows[common[0]]), holds_of(other_rows[common[0]])))
    return Joined(tuple(met))


def _couples(floods):
    """Rows of a lot that can come and two holds, ascending, that can flood there."""
    rows = []
    for lot in floods:
        holds = holds_of(floods[lot])
        rows.extend([(lot, one, other) for one in holds for other in holds if one < other])
    return rows


def meeting_fault(ship, damage, cargo, meeting):
    """None if a Joined or a Fork is right, otherwise a word."""
    couples = _couples(checked_floods(ship, damage, cargo))
    if isinstance(meeting, Fork):
        return _fork_fault(ship, damage, cargo, meeting)
    if not is_sequence(meeting.rows, len(couples), len(couples)):
        return "couples"
    for row, couple in zip(meeting.rows, couples):
        if not is_sequence(row, 5, 5) or not is_just(tuple(row[:3]), couple):
            return "couples"
    for lot, one, other, one_way, other_way in meeting.rows:
        one_lots = play_way(ship, lot_with(ship, lot, one), cargo, one_way)
        other_lots = play_way(ship, lot_with(ship, lot, other), cargo, other_way)
        if isinstance(one_lots, Stopped) or isinstance(other_lots, Stopped):
            return "way"
        if one_lots[-1] != other_lots[-1]:
            return "met"
    return None


def _fork_fault(ship, damage, cargo, fork):
    floods = checked_floods(ship, damage, cargo)
    if not any([is_just(fork.lot, lot) for lot in floods]):
        return "lot"
    if not any([is_just((fork.lot, fork.one, fork.other), couple) for couple in _couples(floods)]):
        return "holds"
    one_lots = lots_from(ship, lot_with(ship, fork.lot, fork.one), cargo)
    other_lots = lots_from(ship, lot_with(ship, fork.lot, fork.other), cargo)
    if not is_just(fork.one_lots, one_lots) or not is_just(fork.other_lots, other_lots):
        return "lots"
    if any([lot in other_lots for lot in one_lots]):
        return "met"
    return None
