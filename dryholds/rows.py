"""Rows of floods, and the cargoes that go through them."""
from dryholds.errors import BadFloods, TooMany
from dryholds.floods import floods_at, goes_over
from dryholds.lots import check_lot, lot_with
from dryholds.plain import as_tuples, is_just
from dryholds.polygons import cut_polygon
from dryholds.ratios import is_sequence, is_whole


class FloodRow:
    """A row of floods of a damage; a result."""

    def __init__(self, damage, lot, floods, halves, corners):
        self.damage = damage
        self.lot = lot
        self.floods = floods
        self.halves = halves
        self.corners = corners


def flood_rows(ship, rule, damage):
    """Yields, in the order of rows, a FloodRow for each row of floods that some cargo of the rule goes through."""
    damage = check_lot(ship, damage)
    yield from rows_onward(ship, damage, rule.halves, rule.corners)


def rows_onward(ship, lot, halves, corners):
    """Yields what flood_rows does, for the points of closed half-planes with these corners."""
    if not corners:
        return
    first = FloodRow(tuple(lot), tuple(lot), (), tuple(halves), as_tuples(corners))
    yield first
    rows = [first]
    known = {}
    while rows:
        longer = []
        for row in list(rows):
            if row.lot not in known:
                known[row.lot] = floods_at(ship, row.lot)
            for hold, edge, half in known[row.lot]:
                behind = row_behind(ship, row, (hold, edge), half)
                if behind.corners:
                    yield behind
                    longer.append(behind)
        rows = longer


def row_behind(ship, row, flood, half):
    """The FloodRow with one more flood, of this half-plane."""
    return FloodRow(row.damage, lot_with(ship, row.lot, flood[0]), row.floods + (flood,), row.halves + (half,),
                    cut_polygon(row.corners, half))


def counted_rows(ship, rule, damages, most):
    """Yields the rows of floods of all damages, in their order, up to this many; more are refused."""
    many = 0
    for damage in damages:
        for row in flood_rows(ship, rule, damage):
            many += 1
            if many > most:
                raise TooMany(most)
            yield row


def row_along(ship, rule, damage, floods):
    """The FloodRow of one row of floods, also where no cargo of the rule goes through it."""
    damage = check_lot(ship, damage)
    if not is_sequence(floods):
        raise BadFloods(0, "pair")
    row = FloodRow(damage, damage, (), rule.halves, rule.corners)
    for index, flood in enumerate(floods):
        if not is_sequence(flood, 2, 2):
            raise BadFloods(index, "pair")
        hold, edge = flood
        if not is_whole(hold, 0, len(ship) - 1) or hold in row.lot:
            raise BadFloods(index, "hold")
        listed = [(told, half) for told, half in goes_over(ship, row.lot, hold) if _is_edge(edge, told)]
        if not listed:
            raise BadFloods(index, "edge")
        told, half = listed[0]
        row = row_behind(ship, row, (hold, told), half)
    return row


def _is_edge(thing, edge):
    """Whether a thing of any kind is this edge, as a list or tuple."""
    return is_sequence(thing) and is_just(tuple(thing), edge)
