"""Polygons, told by their corners: counterclockwise from the least point on, none between two others."""
from dryholds.errors import BadCorners, BadPoint, Unbounded
from dryholds.halfplanes import HalfPlane
from dryholds.ratios import ZERO, ONE, is_couple, is_sequence
from dryholds.ratios import lowest, make_ratio, minus, negative, order_keys, over, plus, sum_of, times


def polygon_of(halves):
    """The corners of all closed common points."""
    rows = [half.row for half in halves]
    sides = box_around(rows)
    far = sides[0][1][0]
    for row in rows:
        sides = trimmed(sides, row)
    corners = [corner for _, corner in sides]
    # All crossings of lines lie within the box, so only points without end come to its border.
    for weight, moment, bottom in corners:
        if abs(weight) == abs(far) * bottom or abs(moment) == abs(far) * bottom:
            raise Unbounded()
    return hull_of([point_at(corner) for corner in corners])


def box_around(rows):
    """The sides of a box that has all crossings of the rows' lines, and a point of each line, within it.

    A row is three whole numbers p, q, r: the points with p * weight + q * moment >= r. A side is a couple of a row
    and the corner at which its border begins, counterclockwise. A corner is three whole numbers: weight and moment
    times the third, which is above 0. A region is told by its sides; it has none if it is empty.
    """
    steepest = max([max(abs(p), abs(q)) for p, q, _ in rows], default=0)
    highest = max([abs(r) for _, _, r in rows], default=0)
    far = highest * (2 * steepest + 1) + 1
    return [((0, 1, -far), (-far, -far, 1)), ((-1, 0, -far), (far, -far, 1)),
            ((0, -1, -far), (far, far, 1)), ((1, 0, -far), (-far, far, 1))]


def trimmed(sides, row):
    """The sides of the part of a region that is on the inner side of a row."""
    excesses = [row_excess(row, corner) for _, corner in sides]
    left = []
    for at, (line, corner) in enumerate(sides):
        here = excesses[at]
        onward = excesses[(at + 1) % len(sides)]
        if here > 0 or here == 0 and onward >= 0:
            left.append((line, corner))
        if here == 0 and onward < 0:
            left.append((row, corner))
        if here > 0 and onward < 0:
            left.append((row, _crossing(line, row)))
        if here < 0 and onward > 0:
            left.append((line, _crossing(line, row)))
    return left


def row_excess(row, corner):
    """A whole number with the sign of the excess of a row at a corner of a region."""
    return row[0] * corner[0] + row[1] * corner[1] - row[2] * corner[2]


def point_at(corner):
    """The point of a corner of a region."""
    return (lowest(corner[0], corner[2]), lowest(corner[1], corner[2]))


def whole_corner(point):
    """The corner of a region at a point."""
    (weight, below), (moment, under) = point
    return (weight * under, moment * below, below * under)


def _crossing(one, other):
    """The corner at which the lines of two rows cross."""
    bottom = one[0] * other[1] - other[0] * one[1]
    weight = one[2] * other[1] - other[2] * one[1]
    moment = one[0] * other[2] - other[0] * one[2]
    if bottom < 0:
        return (-weight, -moment, -bottom)
    return (weight, moment, bottom)


def hull_of(points):
    """The corners of all mixtures of points."""
    for index, point in enumerate(points):
        if not is_couple(point):
            raise BadPoint(index)
    ordered = _ascending([tuple(point) for point in points])
    if len(ordered) < 3:
        return tuple(ordered)
    return tuple(_left_bends(ordered)[:-1] + _left_bends(ordered[::-1])[:-1])


def _ascending(points):
    """The points by weight, then by moment, each once."""
    weights = order_keys([weight for weight, _ in points])
    moments = order_keys([moment for _, moment in points])
    ordered = []
    for _, _, at in sorted([(weights[at], moments[at], at) for at in range(len(points))]):
        if not ordered or ordered[-1] != points[at]:
            ordered.append(points[at])
    return ordered


def _left_bends(points):
    """The points that remain of a row of points if it may bend to the left alone."""
    bends = []
    for point in points:
        while len(bends) > 1 and _turn(bends[-2], bends[-1], point) <= 0:
            bends.pop()
        bends.append(point)
    return bends


def _turn(one, two, three):
    """A whole number above 0 if three points bend to the left, below 0 to the right, 0 if they lie on a line."""
    a, b, c = whole_corner(one)
    d, e, f = whole_corner(two)
    g, h, k = whole_corner(three)
    return a * (e * k - f * h) - b * (d * k - f * g) + c * (d * h - e * g)


def added_polygons(one, other):
    """The corners of all sums of a point of one polygon and a point of the other."""
    if not one or not other:
        return ()
    corner = _added(one[0], other[0])
    corners = [corner]
    for step in _merged(_steps(one), _steps(other)):
        corner = _added(corner, step)
        corners.append(corner)
    return hull_of(corners)


def _steps(corners):
    """The steps from each corner to the next and back to the first; by their bearing from straight down on."""
    if len(corners) < 2:
        return []
    return [_lessened(corners[(at + 1) % len(corners)], corners[at]) for at in range(len(corners))]


def _merged(steps, others):
    """Two rows of steps put into one, by their bearing."""
    row = []
    at = 0
    for other in others:
        while at < len(steps) and _is_ahead(steps[at], other):
            row.append(steps[at])
            at += 1
        row.append(other)
    return row + steps[at:]


def _is_ahead(step, other):
    """Whether a step comes first by its bearing from straight down (not counted) on, counterclockwise."""
    if _is_forth(step) != _is_forth(other):
        return _is_forth(step)
    return minus(times(step[0], other[1]), times(step[1], other[0]))[0] > 0


def _is_forth(step):
    """Whether a step leads to a greater point."""
    return step[0][0] > 0 or step[0][0] == 0 and step[1][0] > 0


def _added(one, other):
    return (plus(one[0], other[0]), plus(one[1], other[1]))


def _lessened(one, other):
    return (minus(one[0], other[0]), minus(one[1], other[1]))


def cut_polygon(corners, half):
    """The corners of the part of a polygon that is in the closed half-plane."""
    excesses = [half.excess_at(corner) for corner in corners]
    kept = []
    for at, corner in enumerate(corners):
        if excesses[at - 1][0] * excesses[at][0] < 0:
            share = over(excesses[at], minus(excesses[at], excesses[at - 1]))
            kept.append(_mixed(corners[at - 1], corner, share))
        if excesses[at][0] >= 0:
            kept.append(corner)
    return hull_of(kept)


def _mixed(one, other, share):
    """The point with this share of one point and the rest of the other."""
    rest = minus(ONE, share)
    return (plus(times(share, one[0]), times(rest, other[0])), plus(times(share, one[1]), times(rest, other[1])))


def outside_of(corners, half):
    """The corners of the part of a polygon beyond the closed half-plane, with its border; () if nothing is beyond."""
    beyond = HalfPlane(negative(half.p), negative(half.q), negative(half.r))
    if not any([beyond.excess_at(corner)[0] > 0 for corner in corners]):
        return ()
    return cut_polygon(corners, beyond)


def twice_area(corners):
    """Twice the area of a polygon."""
    _check_corners(corners)
    parts = []
    for at, (weight, moment) in enumerate(corners):
        last_weight, last_moment = corners[at - 1]
        parts.append(times(last_weight, moment))
        parts.append(negative(times(weight, last_moment)))
    return sum_of(parts)


def mean_of(corners):
    """The mean of the corners of a polygon."""
    _check_corners(corners)
    if not corners:
        raise BadCorners("none")
    return middle_of(corners)


def middle_of(points):
    """The mean of one point or more."""
    share = make_ratio(1, len(points))
    weights = sum_of([weight for weight, _ in points])
    moments = sum_of([moment for _, moment in points])
    return (times(share, weights), times(share, moments))


def covers_cargo(corners, cargo):
    """Whether a point is in a polygon."""
    _check_corners(corners)
    # A point within the polygon, and no other, leaves the corners as they are.
    return hull_of([*corners, cargo]) == hull_of(corners)


def halves_of(corners):
    """Closed half-planes whose common points are just the polygon."""
    _check_corners(corners)
    if not corners:
        return (HalfPlane(ZERO, ZERO, ONE),)
    if len(corners) == 1:
        ways = ((ONE, ZERO), (ZERO, ONE), (negative(ONE), ZERO), (ZERO, negative(ONE)))
        return tuple([_half_along(way, corners[0]) for way in ways])
    halves = []
    for start, step in zip(corners, _steps(corners)):
        halves.append(_half_along((negative(step[1]), step[0]), start))
    if len(corners) == 2:
        for start, step in zip(corners, _steps(corners)):
            halves.append(_half_along(step, start))
    return tuple(halves)


def _half_along(way, point):
    """The closed half-plane, made of its row, of the points that do not lie behind a point on the way."""
    p, q = way
    row = HalfPlane(p, q, plus(times(p, point[0]), times(q, point[1]))).row
    return HalfPlane(make_ratio(row[0]), make_ratio(row[1]), make_ratio(row[2]))


def corners_fault(corners):
    """None for the corners of a polygon, otherwise a word."""
    if not is_sequence(corners):
        return "sequence"
    if not all([is_couple(corner) for corner in corners]):
        return "corner"
    if hull_of(corners) != tuple([tuple(corner) for corner in corners]):
        return "order"
    return None


def _check_corners(corners):
    fault = corners_fault(corners)
    if fault is not None:
        raise BadCorners(fault)
