"""Pushes of holds, and the water in flooded ones."""
from dryholds.lots import check_hold, check_lot
from dryholds.postures import hold_sums, kept_share, load_under
from dryholds.ratios import ONE, minus, sum_of


def push_of(ship, lot, posture, hold):
    """The push of one hold and its moment."""
    lot = check_lot(ship, lot)
    check_hold(ship, hold)
    return load_under(hold_sums(ship.holds[hold], kept_share(ship, lot, hold)), posture)


def water_of(ship, posture, hold):
    """The weight and moment of the water in a hold that is flooded up to the line."""
    row = ship.holds[check_hold(ship, hold)]
    return load_under(hold_sums(row, minus(ONE, row[3])), posture)


def waters_of(ship, lot, posture):
    """The weight and moment of the water in all holds of a lot."""
    waters = [water_of(ship, posture, hold) for hold in check_lot(ship, lot)]
    return (sum_of([weight for weight, _ in waters]), sum_of([moment for _, moment in waters]))
