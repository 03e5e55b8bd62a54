"""What the tests have in common: fractions as a second way to reckon, and ships, half-planes and errors."""
import unittest
from fractions import Fraction

from dryholds.halfplanes import HalfPlane
from dryholds.ship import Ship

# What is no whole number, whatever it may look like.
NO_WHOLES = (True, False, None, 1.0, "1", (1, 1), [1], 1j, Fraction(1))
# What is no ratio: neither by its kind, nor by its length, its entries or its terms.
NO_RATIOS = (0, 1, True, None, 1.0, "1", "1/2", Fraction(1, 2), [1, 2], [0, 1], (), (1,), (1, 2, 3), (2, 4), (0, 2),
             (1, 0), (0, 0), (1, -2), (True, 2), (1, True), (False, 1), (1.0, 2), (1, 2.0), ("1", 2), (None, 1),
             ((1, 1), 1))
NO_SEQUENCES = (None, 0, 7, True, "", "ab", {}, {0: 1}, set(), frozenset(), range(2), iter(()), b"ab", 1.5)
BIG = 10 ** 300 - 1


def r(value, bottom=1):
    """The ratio of anything that Fraction takes."""
    number = Fraction(value) / bottom
    return (number.numerator, number.denominator)


def f(ratio):
    """The Fraction of a ratio."""
    return Fraction(ratio[0], ratio[1])


def negated(ratios):
    return tuple(r(-f(ratio)) for ratio in ratios)


def rs(*values):
    return tuple(r(value) for value in values)


def point(weight, moment):
    return (r(weight), r(moment))


def points(*couples):
    return tuple(point(weight, moment) for weight, moment in couples)


def half(p, q, bound, strict=False):
    return HalfPlane(r(p), r(q), r(bound), strict)


def hold(start, to, breadth=1, share="1/2", deck=10):
    return (start, to, breadth, r(share), r(deck))


def one_hold():
    """The ship of the examples of parts 7 and 8: one hold, a mark in the middle."""
    return Ship([hold(-10, 10)], [], [(r(0), r(4))], (r(0), r(0)))


def four_holds():
    """The ship of the example of part 9."""
    rows = [hold(start, start + 10, 1, "1/2", "39/10") for start in (-20, -10, 0, 10)]
    return Ship(rows, [r("27/10")] * 3, [(r(-20), r("39/10")), (r(20), r("39/10"))], (r(0), r(0)))


def three_holds():
    """A ship in which no two things are alike."""
    return Ship(
        [hold(-7, -2, 3, "1/3", 6), hold(-2, 5, 2, "3/4", "11/2"), hold(5, 11, 4, 0, 8)],
        [r(5), r("9/2")],
        [(r(-7), r(5)), (r("1/2"), r("16/3")), (r(11), r(7))],
        (r("7/2"), r("-4/3")),
        [(1, r("1/4")), (0, r(4)), (1, r(2))],
        [(0, r(-2), r(1)), (2, r("15/2"), r(8)), (1, r(-2), r(0)), (1, r(3), r("5/3"))],
        r("2/7"))


def six_holds():
    """A ship of most holds, with all kinds of shares."""
    shares = (0, 1, "1/2", "2/3", "1/7", "9/10")
    rows = [hold(4 * at - 9, 4 * at - 5, at + 1, share, 5 + at) for at, share in enumerate(shares)]
    return Ship(rows, [r(at + 1) for at in range(5)], [(r(0), r(3))], (r(10), r(-3)), slack=r("5/3"))


def all_lots_of(many):
    """All lots of so many holds, by counting in twos."""
    lots = [tuple(at for at in range(many) if number >> at & 1) for number in range(2 ** many)]
    return sorted(lots, key=lambda lot: (len(lot), lot))


def sums(ship, lot):
    """P, Q and R by the formulas of the document."""
    p = q = rest = Fraction(0)
    for at, (start, to, breadth, share, _) in enumerate(ship.holds):
        kept = f(share) if at in lot else Fraction(1)
        p += kept * breadth * (to - start)
        q += kept * breadth * Fraction(to ** 2 - start ** 2, 2)
        rest += kept * breadth * Fraction(to ** 3 - start ** 3, 3)
    return p, q, rest - f(ship.slack)


def line(ship, lot, weight, moment):
    """(s, t) for a cargo, None if the ship tips."""
    p, q, rest = sums(ship, lot)
    stiff = p * rest - q * q
    if stiff <= 0:
        return None
    load, turn = f(ship.own[0]) + weight, f(ship.own[1]) + moment
    return (rest * load - q * turn) / stiff, (p * turn - q * load) / stiff


class Case(unittest.TestCase):
    """A test case that knows how errors are told."""

    def refused(self, error, told, call, *things, **named):
        """The call raises just this error, with these attributes in this order; bools are no numbers."""
        with self.assertRaises(error) as caught:
            call(*things, **named)
        self.assertIs(type(caught.exception), error)
        got = [(name, type(thing), thing) for name, thing in vars(caught.exception).items()]
        self.assertEqual(got, [(name, type(thing), thing) for name, thing in told.items()])

    def same(self, got, wanted):
        """Equal, and of one kind throughout: True is not 1, a list is no tuple."""
        self.assertEqual(repr(got), repr(wanted))


def have_common(halves):
    """Whether half-planes have a common point, by elimination of the moment and then of the weight."""
    rows = [(f(one.p), f(one.q), f(one.r), one.strict) for one in halves]
    flat = [(p, bound, strict) for p, q, bound, strict in rows if q == 0]
    for p, q, bound, strict in rows:
        for u, v, other, sharp in rows:
            if q > 0 > v:
                flat.append((q * u - v * p, q * other - v * bound, strict or sharp))
    lows = [(bound / p, strict) for p, bound, strict in flat if p > 0]
    highs = [(bound / p, strict) for p, bound, strict in flat if p < 0]
    if any(bound > 0 or bound == 0 and strict for p, bound, strict in flat if p == 0):
        return False
    return all(low < high or low == high and not (strict or sharp) for low, strict in lows for high, sharp in highs)


def in_hull(place, corners):
    """Whether a point is a mixture of points, by all triples of them."""
    def turn(one, two, three):
        (a, b), (c, d), (g, h) = [(f(x), f(y)) for x, y in (one, two, three)]
        return (c - a) * (h - b) - (d - b) * (g - a)

    def between(one, two):
        return turn(one, two, place) == 0 and all(
            min(f(one[at]), f(two[at])) <= f(place[at]) <= max(f(one[at]), f(two[at])) for at in (0, 1))

    if any(between(one, two) for one in corners for two in corners):
        return True
    for one in corners:
        for two in corners:
            for three in corners:
                if turn(one, two, three) > 0 and min(
                        turn(one, two, place), turn(two, three, place), turn(three, one, place)) >= 0:
                    return True
    return False
