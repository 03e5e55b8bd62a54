"""Half-planes: all points (weight, moment) with p * weight + q * moment at or above r, or above it."""
from math import gcd, lcm

from dryholds.errors import BadHalf
from dryholds.ratios import is_ratio, minus, negative, plus, times


class HalfPlane:
    """A half-plane; a strict one is without its border."""

    def __init__(self, p, q, r, strict=False):
        for what, number in (("p", p), ("q", q), ("r", r)):
            if not is_ratio(number):
                raise BadHalf(what)
        if strict is not True and strict is not False:
            raise BadHalf("strict")
        self.p = p
        self.q = q
        self.r = r
        self.strict = strict
        self.row = _row_of(p, q, r)

    def __eq__(self, other):
        return (isinstance(other, HalfPlane) and self.p == other.p and self.q == other.q
                and self.r == other.r and self.strict == other.strict)

    @property
    def reach(self):
        """Which points are in it: those beside a line, all or none."""
        p, q, r = self.row
        if p != 0 or q != 0:
            return "line"
        return "none" if r > 0 or r == 0 and self.strict else "all"

    def holds_cargo(self, cargo):
        """Whether a point is in it."""
        p, q, r = self.row
        (weight, below), (moment, under) = cargo
        # The row tells the sign of the excess by whole numbers alone.
        excess = p * weight * under + q * moment * below - r * below * under
        return excess > 0 or excess == 0 and not self.strict

    def excess_at(self, cargo):
        """By how much a point is above the border."""
        weight, moment = cargo
        return minus(plus(times(self.p, weight), times(self.q, moment)), self.r)

    def opposite(self):
        """The half-plane of all other points."""
        return HalfPlane(negative(self.p), negative(self.q), negative(self.r), not self.strict)

    def closed(self):
        """The half-plane with its border."""
        return HalfPlane(self.p, self.q, self.r)

    def is_same(self, other):
        """Whether both hold the same points."""
        if self.reach != other.reach:
            return False
        return self.reach != "line" or self.row == other.row and self.strict == other.strict


def _row_of(p, q, r):
    """Three whole numbers without a common factor that are p, q and r times one ratio above 0."""
    bottom = lcm(p[1], q[1], r[1])
    row = [top * (bottom // below) for top, below in (p, q, r)]
    # Three zeros have the common factor 0.
    common = gcd(row[0], row[1], row[2]) or 1
    return tuple([number // common for number in row])
