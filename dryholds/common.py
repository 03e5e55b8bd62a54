"""Common points of half-planes, and the few half-planes that leave none."""
from math import gcd, lcm

from dryholds.errors import BadPoint
from dryholds.polygons import box_around, middle_of, point_at, row_excess, trimmed, whole_corner
from dryholds.ratios import ZERO, is_couple, is_sequence, is_whole, lowest, make_ratio, plus, times


class Point:
    """A common point."""

    def __init__(self, cargo):
        if not is_couple(cargo):
            raise BadPoint(0)
        self.cargo = tuple(cargo)

    def __eq__(self, other):
        return isinstance(other, Point) and self.cargo == other.cargo


class Barred:
    """Indices and weights of half-planes that contradict each other; a result."""

    def __init__(self, indices, weights):
        self.indices = indices
        self.weights = weights

    def __eq__(self, other):
        return isinstance(other, Barred) and self.indices == other.indices and self.weights == other.weights


def find_common(halves):
    """A Point with any common point, or a Barred that shows that there is none."""
    for index, half in enumerate(halves):
        if half.reach == "none":
            return Barred((index,), (1,))
    sides = box_around([half.row for half in halves])
    for index, half in enumerate(halves):
        left = trimmed(sides, half.row)
        if not left:
            return _barred_beside(halves, index, _nearest([corner for _, corner in sides], half.row))
        sides = left
    # The mean of all corners is on a border only if all closed common points are.
    middle = middle_of([point_at(corner) for _, corner in sides])
    for index, half in enumerate(halves):
        if not half.holds_cargo(middle):
            return _barred_beside(halves, index, whole_corner(middle))
    return Point(middle)


def barred_behind(halves, corners, half):
    """The Barred of half-planes and, behind them, one that holds none of their points, which have these corners."""
    nearest = _nearest([whole_corner(corner) for corner in corners], half.row)
    return _barred_beside([*halves, half], len(halves), nearest)


def _nearest(corners, row):
    """Of the corners of a region the one that is nearest to being within a row."""
    nearest = corners[0]
    for corner in corners:
        if row_excess(row, corner) * nearest[2] > row_excess(row, nearest) * corner[2]:
            nearest = corner
    return nearest


def _barred_beside(halves, index, corner):
    """The Barred of one half-plane and of one or two that have a corner on their border.

    The corner is, of the closed common points of others, one that comes nearest to the half-plane. What keeps it from
    coming nearer are half-planes with the corner on their border, and one or two of them are enough.
    """
    row = halves[index].row
    left = right = index
    for at, half in enumerate(halves):
        if row_excess(half.row, corner) != 0:
            continue
        if _are_opposed(half.row, row):
            return _barred_of(halves, tuple(sorted([at, index])))
        # Of those that point to one side, the one that points the farthest back leaves the most to the other side.
        bend = _bend(row, half.row)
        if bend > 0 and _bend(halves[left].row, half.row) > 0:
            left = at
        if bend < 0 and _bend(halves[right].row, half.row) < 0:
            right = at
    return _barred_of(halves, tuple(sorted([left, right, index])))


def _are_opposed(one, other):
    """Whether two rows point into just opposite ways; a row without a line points nowhere."""
    return _bend(one, other) == 0 and one[0] * other[0] + one[1] * other[1] < 0


def _are_around(one, two, three):
    """Whether some weights above 0 let three rows, no two along one line, cancel out."""
    bends = (_bend(one, two), _bend(two, three), _bend(three, one))
    return all([bend > 0 for bend in bends]) or all([bend < 0 for bend in bends])


def _bend(one, other):
    return one[0] * other[1] - one[1] * other[0]


def _cancelling(rows):
    """Weights above 0 with which two or three rows cancel out."""
    if len(rows) == 2:
        return [max(abs(rows[1][0]), abs(rows[1][1])), max(abs(rows[0][0]), abs(rows[0][1]))]
    return [abs(_bend(rows[1], rows[2])), abs(_bend(rows[2], rows[0])), abs(_bend(rows[0], rows[1]))]


def _barred_of(halves, indices):
    """The Barred, with the least weights, of two or three half-planes whose rows cancel out."""
    weights = _cancelling([halves[index].row for index in indices])
    parts = [times(make_ratio(weight), _row_factor(halves[index])) for weight, index in zip(weights, indices)]
    return Barred(indices, _least_wholes(parts))


def _least_wholes(ratios):
    """The whole numbers without a common factor that are the ratios times one ratio above 0."""
    bottom = 1
    for one in ratios:
        bottom = lcm(bottom, one[1])
    common = 0
    for one in ratios:
        common = gcd(common, one[0] * bottom // one[1])
    return tuple([one[0] * bottom // one[1] // common for one in ratios])


def _row_factor(half):
    """The ratio by which p, q and r were multiplied to make the row of a half-plane that reaches to a line."""
    at, number = (1, half.q) if half.row[0] == 0 else (0, half.p)
    return lowest(half.row[at] * number[1], number[0])


def barred_fault(halves, barred):
    """None if a Barred shows that half-planes have no common point, otherwise a word."""
    indices = barred.indices
    weights = barred.weights
    if not is_sequence(indices, 1, 3):
        return "many"
    for at, index in enumerate(indices):
        if not is_whole(index, 0, len(halves) - 1) or at > 0 and index <= indices[at - 1]:
            return "order"
    if not is_sequence(weights, len(indices), len(indices)) or not all([is_whole(weight, 1) for weight in weights]):
        return "weights"
    p, q, r = _weighted_sums([halves[index] for index in indices], weights)
    if p != ZERO or q != ZERO:
        return "normals"
    if r[0] < 0 or r[0] == 0 and not any([halves[index].strict for index in indices]):
        return "bounds"
    return None


def _weighted_sums(halves, weights):
    """The weighted sums of p, q and r."""
    p = q = r = ZERO
    for half, weight in zip(halves, weights):
        factor = make_ratio(weight)
        p = plus(p, times(factor, half.p))
        q = plus(q, times(factor, half.q))
        r = plus(r, times(factor, half.r))
    return (p, q, r)


def point_fault(halves, point):
    """None if a Point is in all half-planes, otherwise the first index of one that does not hold it."""
    for index, half in enumerate(halves):
        if not half.holds_cargo(point.cargo):
            return index
    return None


def all_barred(halves):
    """Yields a Barred for each one, two or three half-planes without a common point, any fewer of which have one."""
    for index, half in enumerate(halves):
        if half.reach == "none":
            yield Barred((index,), (1,))
    for indices in _cancelling_indices(halves):
        if _is_out_of_reach([halves[index] for index in indices]):
            yield _barred_of(halves, indices)


def _cancelling_indices(halves):
    """The indices of all two and three half-planes whose rows cancel out, but no fewer of theirs."""
    rows = [half.row for half in halves]
    many = len(rows)
    pairs = [(one, two) for one in range(many) for two in range(one + 1, many) if _are_opposed(rows[one], rows[two])]
    triples = [(one, two, three) for one in range(many) for two in range(one + 1, many)
               for three in range(two + 1, many) if _are_around(rows[one], rows[two], rows[three])]
    return pairs + triples


def _is_out_of_reach(halves):
    """Whether no point reaches the bounds of two or three half-planes whose rows cancel out."""
    rows = [half.row for half in halves]
    bound = sum([weight * row[2] for weight, row in zip(_cancelling(rows), rows)])
    return bound > 0 or bound == 0 and any([half.strict for half in halves])


def needed_halves(halves):
    """The ascending indices that remain when each half-plane that the other remaining ones imply is left out."""
    needed = list(range(len(halves)))
    for index in range(len(halves)):
        others = [other for other in needed if other != index]
        beyond = find_common([halves[other] for other in others] + [halves[index].opposite()])
        if isinstance(beyond, Barred):
            needed = others
    return tuple(needed)
