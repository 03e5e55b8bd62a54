"""Areas: how much of a rule's polygon the pieces of a chart cover.

Regions are told by their sides, as polygons.box_around tells them. All regions here have an area.
"""
from dryholds.errors import NoArea
from dryholds.polygons import box_around, hull_of, point_at, row_excess, trimmed
from dryholds.ratios import ONE, lowest, make_ratio, minus, over, sum_of, times


def safe_polygons(chart):
    """Polygons without a common area that fill up, with the pieces, the polygon of the rule."""
    outside, _ = _divided(_regions_of(chart.rule), chart.pieces)
    return tuple([hull_of([point_at(corner) for _, corner in sides]) for sides in outside])


def lost_share(chart):
    """The share of the rule's area that the pieces cover."""
    return _covered_share(_regions_with_area(chart.rule), chart.pieces)


def safe_share(chart):
    """The share of the rule's area that no piece covers."""
    return minus(ONE, lost_share(chart))


def damage_shares(chart):
    """The lost shares of the damages one by one."""
    regions = _regions_with_area(chart.rule)
    return tuple([_covered_share(regions, _pieces_of(chart, number)) for number in range(len(chart.damages))])


def depth_shares(chart):
    """For each number of damages, from 0 on, the share of the area whose cargoes just so many of them can lose."""
    whole = _regions_with_area(chart.rule)
    # Behind some damages, layers[k] has the regions that just k of them can lose.
    layers = [whole]
    for number in range(len(chart.damages)):
        deeper = [[] for _ in range(len(layers) + 1)]
        for many, regions in enumerate(list(layers)):
            outside, inside = _divided(regions, _pieces_of(chart, number))
            deeper[many].extend(outside)
            deeper[many + 1].extend(inside)
        layers = deeper
    return tuple([over(_area_of(regions), _area_of(whole)) for regions in layers])


def _pieces_of(chart, number):
    """The pieces of one damage."""
    return [piece for piece in chart.pieces if piece.number == number]


def _regions_of(rule):
    """The region of a rule in a list; no region if it has no area."""
    if len(rule.corners) < 3:
        return []
    rows = [half.row for half in rule.halves]
    sides = box_around(rows)
    for row in rows:
        sides = trimmed(sides, row)
    return [sides]


def _regions_with_area(rule):
    regions = _regions_of(rule)
    if not regions:
        raise NoArea()
    return regions


def _covered_share(regions, pieces):
    """The share of the area of regions that pieces cover."""
    outside, _ = _divided(regions, pieces)
    return minus(ONE, over(_area_of(outside), _area_of(regions)))


def _divided(regions, pieces):
    """The parts of regions that are in no piece, and the parts that are in some piece."""
    outside = regions
    inside = []
    for piece in pieces:
        rows = [half.row for half in piece.halves if half.reach != "all"]
        left = []
        for sides in list(outside):
            beyond, within = _parted(sides, rows)
            left.extend(beyond)
            inside.extend(within)
        outside = left
    return (outside, inside)


def _parted(sides, rows):
    """The parts of a region that are not within all of the rows, and in a list the part that is, if it has an area."""
    beyond = []
    rest = sides
    for row in rows:
        excesses = [row_excess(row, corner) for _, corner in rest]
        if max(excesses) <= 0:
            return ([sides], [])
        if min(excesses) < 0:
            beyond.append(trimmed(rest, _turned(row)))
            rest = trimmed(rest, row)
    return (beyond, [rest])


def _turned(row):
    """The row of what is on the other side of a row's line."""
    p, q, r = row
    return (-p, -q, -r)


def _area_of(regions):
    """Twice the area that regions without a common area have together."""
    # What a side from one corner to another adds is what the first gives on the side's line, less what the second
    # gives. So corners within the whole cancel out, and the sum stays one of few ratios.
    counts = {}
    for sides in regions:
        for at, (row, corner) in enumerate(sides):
            for end, step in ((corner, 1), (sides[(at + 1) % len(sides)][1], -1)):
                given = _given_by(row, end)
                counts[given] = counts.get(given, 0) + step
    return sum_of([times(make_ratio(counts[given]), given) for given in counts])


def _given_by(row, corner):
    """What a corner gives as the first end of a side on a row's line."""
    p, q, r = row
    weight, moment, bottom = corner
    if q != 0:
        return lowest(r * weight, q * bottom)
    return lowest(-r * moment, p * bottom)
