"""Lifts: by how much a weight at one place raises the line at another."""
from dryholds.lots import check_place
from dryholds.postures import Tips, stiffness, sums_of
from dryholds.ratios import ZERO, compare, minus, over, times


def lift_of(ship, lot, put, seen):
    """By how much a cargo of weight 1 at a place raises the line where it is seen, or Tips()."""
    p, q, r = sums = sums_of(ship, lot)
    check_place(put)
    check_place(seen)
    stiff = stiffness(sums)
    if compare(stiff, ZERO) <= 0:
        return Tips()
    return over(minus(minus(r, times(q, put)), times(minus(q, times(p, put)), seen)), stiff)


def even_place(ship, lot):
    """The place at which a weight raises the whole line by one amount, or Tips()."""
    p, q, _ = sums = sums_of(ship, lot)
    if compare(stiffness(sums), ZERO) <= 0:
        return Tips()
    return over(q, p)


def still_place(ship, lot, put):
    """The place at which a weight at another place changes nothing, None if there is none, or Tips()."""
    p, q, r = sums = sums_of(ship, lot)
    check_place(put)
    if compare(stiffness(sums), ZERO) <= 0:
        return Tips()
    lean = minus(times(p, put), q)
    if lean == ZERO:
        return None
    return over(minus(times(q, put), r), lean)
