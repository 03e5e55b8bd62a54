"""Floods: the edges over which water goes on into another hold."""
from dryholds.halfplanes import HalfPlane
from dryholds.lots import check_cargo, check_hold, check_lot
from dryholds.postures import Tips, line_rows
from dryholds.ratios import make_ratio, minus


def goes_over(ship, lot, hold):
    """The edges over which water can come into a hold, each with the half-plane of the cargoes that let it."""
    lot = check_lot(ship, lot)
    edges = _edges_into(ship, lot, check_hold(ship, hold))
    rows = line_rows(ship, lot, [place for _, place, _ in edges])
    if isinstance(rows, Tips):
        return ()
    return tuple([(edge, HalfPlane(p, q, minus(height, r))) for (edge, _, height), (p, q, r) in zip(edges, rows)])


def _edges_into(ship, lot, hold):
    """The edges into a hold with their places and heights; none into a hold that is flooded."""
    if hold in lot:
        return []
    edges = []
    for bulkhead, other in ((hold - 1, hold - 1), (hold, hold + 1)):
        if other in lot:
            edges.append((("bulkhead", bulkhead), make_ratio(ship.place_of(bulkhead)), ship.edge_of(bulkhead)))
    for number, (beside, place, sill) in enumerate(ship.ports):
        if beside == hold:
            edges.append((("port", number), place, sill))
    return edges


def floods_at(ship, lot):
    """All that goes_over tells at a lot: rows of hold, edge and half-plane, the holds ascending."""
    return tuple([(hold, edge, half) for hold in range(len(ship)) for edge, half in goes_over(ship, lot, hold)])


def can_flood(ship, lot, cargo):
    """The holds that can flood at a lot with a cargo."""
    lot = check_lot(ship, lot)
    cargo = check_cargo(cargo)
    return tuple([hold for hold in range(len(ship)) if open_edges(ship, lot, cargo, hold)])


def open_edges(ship, lot, cargo, hold):
    """The edges over which water comes into a hold at a lot with a cargo."""
    lot = check_lot(ship, lot)
    cargo = check_cargo(cargo)
    return tuple([edge for edge, half in goes_over(ship, lot, hold) if half.holds_cargo(cargo)])
