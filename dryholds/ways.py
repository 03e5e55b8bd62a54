"""Ways: holds that flood one after another."""
from dryholds.floods import can_flood
from dryholds.lots import check_cargo, check_lot, lot_with
from dryholds.lotsfrom import first_loss, floods_from
from dryholds.ratios import is_sequence, is_whole


class Stopped:
    """A way stops at the item with this index."""

    def __init__(self, index):
        self.index = index

    def __eq__(self, other):
        return isinstance(other, Stopped) and self.index == other.index


class Loss:
    """A way to a wrong lot."""

    def __init__(self, way, lot, wrong):
        self.way = way
        self.lot = lot
        self.wrong = wrong

    def __eq__(self, other):
        return (isinstance(other, Loss) and self.way == other.way and self.lot == other.lot
                and self.wrong == other.wrong)


def play_way(ship, damage, cargo, way):
    """The lots that a way passes, or Stopped."""
    lots = [check_lot(ship, damage)]
    cargo = check_cargo(cargo)
    if not is_sequence(way):
        return Stopped(0)
    for index, hold in enumerate(way):
        if not is_whole(hold) or hold not in can_flood(ship, lots[-1], cargo):
            return Stopped(index)
        lots.append(lot_with(ship, lots[-1], hold))
    return tuple(lots)


def holds_of(floods):
    """The way of a row of floods."""
    return tuple([hold for hold, _ in floods])


def way_of(ship, damage, cargo, lot):
    """The least way to a lot, None if it cannot come."""
    for way in _ways_to(ship, damage, cargo, lot):
        return way
    return None


def all_ways(ship, damage, cargo, lot):
    """Yields all ways to a lot, ascending."""
    ways = _ways_to(ship, damage, cargo, lot)
    yield from ways


def count_ways(ship, damage, cargo, lot):
    """How many ways to a lot there are."""
    return len(_ways_to(ship, damage, cargo, lot))


def _ways_to(ship, damage, cargo, lot):
    """All ways to a lot, ascending."""
    damage = check_lot(ship, damage)
    lot = check_lot(ship, lot)
    floods = floods_from(ship, damage, check_cargo(cargo))
    ways = [((), damage)]
    for _ in range(len(lot) - len(damage)):
        ways = [(way + (hold,), lot_with(ship, before, hold)) for way, before in ways
                for hold in holds_of(floods[before]) if hold in lot]
    return [way for way, last in ways if last == lot]


def early_loss(ship, damage, cargo):
    """The Loss of least holds and of the least way, None if the cargo is not lost."""
    damage = check_lot(ship, damage)
    loss = first_loss(ship, damage, check_cargo(cargo))
    if loss is None:
        return None
    lot, floods, wrong = loss
    return Loss(holds_of(floods), lot, wrong)
