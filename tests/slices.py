"""Areas reckoned slice by slice, and couples of every kind that lines tell apart, with fractions."""
import itertools
from fractions import Fraction

from tests.helpers import f


def lines_of(halves):
    """The unlike lines (p, q, r) of half-planes that have one."""
    lines = []
    for one in halves:
        p, q, bound = f(one.p), f(one.q), f(one.r)
        if p or q:
            scale = q or p
            lines.append((p / scale, q / scale, bound / scale))
    return sorted(set(lines))


def crossings(lines):
    """All couples in which two of the lines cross."""
    found = set()
    for (a, b, c), (d, e, g) in itertools.combinations(lines, 2):
        bottom = a * e - b * d
        if bottom:
            found.add(((c * e - b * g) / bottom, (a * g - c * d) / bottom))
    return found


def is_inside(couple, halves):
    """Whether a couple of fractions is in each half-plane."""
    for one in halves:
        excess = f(one.p) * couple[0] + f(one.q) * couple[1] - f(one.r)
        if excess < 0 or excess == 0 and one.strict:
            return False
    return True


def slices(halves):
    """Rows (couple, area) of all parts, beside upright lines, into which the lines of half-planes cut the plane.

    The couple is inside of the part. Parts without end are left out.
    """
    lines = lines_of(halves)
    weights = sorted({weight for weight, _ in crossings(lines)})
    slopes = [(-p / q, bound / q) for p, q, bound in lines if q]
    rows = []
    for low, high in zip(weights, weights[1:]):
        middle = (low + high) / 2
        heights = sorted({slope * middle + start for slope, start in slopes})
        # No lines cross within a slice, so each part is as high in the middle as it is in the mean.
        for below, above in zip(heights, heights[1:]):
            rows.append(((middle, (below + above) / 2), (high - low) * (above - below)))
    return rows


def area_where(holds, halves):
    """The area of the couples for which a function of a couple is true; it is cut out by these half-planes."""
    return sum((area for couple, area in slices(halves) if holds(couple)), Fraction(0))


def all_kinds(halves):
    """Couples of all kinds that half-planes tell apart: where lines cross, on lines between, and beside all lines."""
    lines = lines_of(halves)
    met = crossings(lines)
    couples = set(met)
    for p, q, bound in lines:
        along = sorted({couple for couple in met if p * couple[0] + q * couple[1] == bound})
        couples |= {((a + c) / 2, (b + d) / 2) for (a, b), (c, d) in zip(along, along[1:])}
    return couples | {couple for couple, _ in slices(halves)}


def corners_area(corners):
    """The area of a polygon of couples of fractions."""
    total = Fraction(0)
    for at, (weight, moment) in enumerate(corners):
        total += corners[at - 1][0] * moment - weight * corners[at - 1][1]
    return total / 2


def clipped(corners, p, q, bound):
    """The part of a convex polygon of fractions with p w + q m >= bound."""
    kept = []
    for at, (weight, moment) in enumerate(corners):
        before = corners[at - 1]
        here, there = p * weight + q * moment - bound, p * before[0] + q * before[1] - bound
        if here * there < 0:
            share = here / (here - there)
            kept.append((weight + share * (before[0] - weight), moment + share * (before[1] - moment)))
        if here >= 0:
            kept.append((weight, moment))
    return kept


def common_area(one, other):
    """The area that two convex polygons, told counterclockwise by fractions, have in common."""
    left = list(one)
    for at, (c, d) in enumerate(other):
        a, b = other[at - 1]
        # To the left of the side from (a, b) to (c, d).
        p, q = b - d, c - a
        left = clipped(left, p, q, p * a + q * b)
    return corners_area(left) if len(left) > 2 else Fraction(0)


def fractions_of(corners):
    return [(f(weight), f(moment)) for weight, moment in corners]
