"""Postures: the lines at which a ship with flooded holds floats."""
from dryholds.errors import BadLine
from dryholds.lots import check_cargo, check_lot, check_place
from dryholds.ratios import ZERO, ONE, compare, is_ratio, lowest, make_ratio, minus, over, plus, sum_of, times


class Floating:
    """What becomes of a ship with a lot and a cargo."""

    KIND = ""


class Posture(Floating):
    """A line: its height at place x is s + t * x."""

    KIND = "line"

    def __init__(self, s, t):
        if not is_ratio(s):
            raise BadLine("s")
        if not is_ratio(t):
            raise BadLine("t")
        self.s = s
        self.t = t

    def __eq__(self, other):
        return isinstance(other, Posture) and self.s == other.s and self.t == other.t


class Tips(Floating):
    """No posture: the ship tips."""

    KIND = "tips"

    def __eq__(self, other):
        return isinstance(other, Tips)


def hold_sums(hold, share):
    """What one hold that keeps a share of its push adds to P, Q and R."""
    start, to, breadth = hold[:3]
    kept = share[0] * breadth
    return (lowest(kept * (to - start), share[1]),
            lowest(kept * (to ** 2 - start ** 2), 2 * share[1]),
            lowest(kept * (to ** 3 - start ** 3), 3 * share[1]))


def kept_share(ship, lot, hold):
    """The share of its push that a hold keeps with a lot."""
    return ship.holds[hold][3] if hold in lot else ONE


def sums_of(ship, lot):
    """The sums P, Q and R of the ship with the lot flooded."""
    lot = check_lot(ship, lot)
    sums = [hold_sums(ship.holds[hold], kept_share(ship, lot, hold)) for hold in range(len(ship))]
    p, q, r = [sum_of([part[at] for part in sums]) for at in range(3)]
    return (p, q, minus(r, ship.slack))


def stiffness(sums):
    """P R - Q Q: above 0 unless the ship tips."""
    p, q, r = sums
    return minus(times(p, r), times(q, q))


def does_tip(ship, lot):
    """Whether the ship tips with the lot."""
    return compare(stiffness(sums_of(ship, lot)), ZERO) <= 0


def posture_of(ship, lot, cargo):
    """The Posture of the ship, or Tips()."""
    p, q, r = sums = sums_of(ship, lot)
    weight, moment = loaded(ship, check_cargo(cargo))
    stiff = stiffness(sums)
    if compare(stiff, ZERO) <= 0:
        return Tips()
    s = minus(times(r, weight), times(q, moment))
    t = minus(times(p, moment), times(q, weight))
    return Posture(over(s, stiff), over(t, stiff))


def loaded(ship, cargo):
    """The own weight and moment of the ship and those of a couple together."""
    return (plus(ship.own[0], cargo[0]), plus(ship.own[1], cargo[1]))


def height_at(posture, place):
    """The height of the line at a place."""
    return plus(posture.s, times(posture.t, check_place(place)))


def line_row(ship, lot, place):
    """The row (p, q, r) that tells the line's height at a place for every cargo, or Tips()."""
    rows = line_rows(ship, lot, (place,))
    return rows if isinstance(rows, Tips) else rows[0]


def line_rows(ship, lot, places):
    """The rows of several places, or Tips()."""
    sums = sums_of(ship, lot)
    for place in places:
        check_place(place)
    if compare(stiffness(sums), ZERO) <= 0:
        return Tips()
    return tuple([_row_at(ship, sums, place) for place in places])


def _row_at(ship, sums, place):
    """The row of one place; the ship does not tip."""
    stiff = stiffness(sums)
    p = over(minus(sums[2], times(sums[1], place)), stiff)
    q = over(minus(times(sums[0], place), sums[1]), stiff)
    return (p, q, plus(times(p, ship.own[0]), times(q, ship.own[1])))


def cargo_of(ship, lot, posture):
    """The weight and moment of the cargo with which the ship with this lot has this line."""
    weight, moment = load_under(sums_of(ship, lot), posture)
    return (minus(weight, ship.own[0]), minus(moment, ship.own[1]))


def load_under(sums, posture):
    """The load that a line carries."""
    p, q, r = sums
    return (plus(times(p, posture.s), times(q, posture.t)), plus(times(q, posture.s), times(r, posture.t)))


def posture_fault(ship, lot, cargo, posture):
    """None if this is the posture of the cargo, otherwise a word."""
    sums = sums_of(ship, lot)
    weight, moment = loaded(ship, check_cargo(cargo))
    carried, turned = load_under(sums, posture)
    if compare(stiffness(sums), ZERO) <= 0:
        return "tips"
    if carried != weight:
        return "weight"
    if turned != moment:
        return "moment"
    return None


def store_of(ship, lot, cargo, posture):
    """The store of a line: the posture of the cargo has the least."""
    sums = sums_of(ship, lot)
    weight, moment = loaded(ship, check_cargo(cargo))
    carried, turned = load_under(sums, posture)
    lift = plus(times(carried, posture.s), times(turned, posture.t))
    sunk = plus(times(weight, posture.s), times(moment, posture.t))
    return minus(times(make_ratio(1, 2), lift), sunk)


def is_off(ship, posture):
    """Whether the line is above a deck at an end of its hold, or below 0 at an end of the ship."""
    for start, to, _, _, deck in ship.holds:
        for place in (start, to):
            if compare(height_at(posture, make_ratio(place)), deck) > 0:
                return True
    return any([height_at(posture, make_ratio(place))[0] < 0 for place in ship.ends])
