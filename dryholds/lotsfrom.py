"""The lots that can come from a damage with one cargo."""
from dryholds.floods import can_flood, floods_at
from dryholds.lots import check_cargo, check_lot, lot_with
from dryholds.wrongs import first_wrong


def floods_from(ship, damage, cargo):
    """A dict: for each lot that can come, in their order, its floods: holds that can flood with their first edges."""
    found = {}
    fresh = [damage]
    while fresh:
        for lot in fresh:
            found[lot] = _first_floods(ship, lot, cargo)
        behind = [lot_with(ship, lot, hold) for lot in fresh for hold, _ in found[lot]]
        fresh = sorted(set(behind))
    return found


def _first_floods(ship, lot, cargo):
    """The holds that can flood at a lot, ascending, each with the first edge over which water comes."""
    edges = {}
    for hold, edge, half in floods_at(ship, lot):
        if half.holds_cargo(cargo):
            edges.setdefault(hold, edge)
    return tuple([(hold, edges[hold]) for hold in edges])


def least_rows(ship, floods, lot):
    """A dict: for each lot later than a lot that can come, the least row of floods to it; in the order of rows.

    Floods are what floods_from returns.
    """
    rows = {lot: ()}
    fresh = [lot]
    while fresh:
        # The first row that comes to a lot is the least one: the rows are made in their order.
        behind = {}
        for before in fresh:
            for flood in floods[before]:
                behind.setdefault(lot_with(ship, before, flood[0]), rows[before] + (flood,))
        for later in behind:
            rows[later] = behind[later]
        fresh = list(behind)
    return rows


def first_loss(ship, damage, cargo):
    """The first wrong lot in the order of least rows, its row and the name of the wrong end; None if none can come."""
    rows = least_rows(ship, floods_from(ship, damage, cargo), damage)
    for lot in rows:
        wrong = first_wrong(ship, lot, cargo)
        if wrong is not None:
            return (lot, rows[lot], wrong)
    return None


def checked_floods(ship, damage, cargo):
    """What floods_from returns, once damage and cargo are checked."""
    damage = check_lot(ship, damage)
    return floods_from(ship, damage, check_cargo(cargo))


def lots_from(ship, damage, cargo):
    """All lots that can come: lots of fewer holds first, then ascending."""
    return tuple(checked_floods(ship, damage, cargo))


def ends_from(ship, damage, cargo):
    """The lots that can come at which no hold can flood."""
    floods = checked_floods(ship, damage, cargo)
    return tuple([lot for lot in floods if not floods[lot]])


def has_one_end(ship, damage, cargo):
    """Whether there is one end alone."""
    return len(ends_from(ship, damage, cargo)) == 1


def must_flood(ship, damage, cargo):
    """The holds that are in every end."""
    ends = ends_from(ship, damage, cargo)
    return tuple([hold for hold in range(len(ship)) if all([hold in lot for lot in ends])])


def may_flood(ship, damage, cargo):
    """The holds that are in some lot that can come."""
    lots = lots_from(ship, damage, cargo)
    return tuple([hold for hold in range(len(ship)) if any([hold in lot for lot in lots])])


def settle(ship, damage, cargo):
    """The lots that are passed if always the least hold that can flood floods next."""
    lots = [check_lot(ship, damage)]
    cargo = check_cargo(cargo)
    holds = can_flood(ship, lots[-1], cargo)
    while holds:
        lots.append(lot_with(ship, lots[-1], holds[0]))
        holds = can_flood(ship, lots[-1], cargo)
    return tuple(lots)


def is_lost(ship, damage, cargo):
    """Whether some lot that can come is wrong."""
    damage = check_lot(ship, damage)
    return first_loss(ship, damage, check_cargo(cargo)) is not None
