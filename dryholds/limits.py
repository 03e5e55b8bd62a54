"""Limits: how light a cargo, and how high a top, must be lest the ship be lost."""
from dryholds.charts import chart_of
from dryholds.damages import check_damages
from dryholds.errors import HasDoor
from dryholds.ratios import ZERO, greatest_of, least_of
from dryholds.verdict import Lost


class Limit:
    """A bound, and whether it is reached."""

    def __init__(self, value, reached):
        self.value = value
        self.reached = reached

    def __eq__(self, other):
        return isinstance(other, Limit) and self.value == other.value and self.reached == other.reached


class Sunk:
    """No top of the bulkhead is high enough: a Lost shows it."""

    def __init__(self, lost):
        self.lost = lost


def lightest_loss(ship, rule, damages):
    """The Limit of the weights of the lost cargoes, None if there are none."""
    weights = []
    for piece in chart_of(ship, rule, damages).pieces:
        weights.extend([(corner[0], corner in piece) for corner in piece.corners])
    return _limit_at(least_of([weight for weight, _ in weights]), weights) if weights else None


def top_limit(ship, rule, damages, bulkhead):
    """The Limit of the tops of a bulkhead that lose the ship, None if there are none, Sunk if all of them do."""
    damages = check_damages(ship, damages)
    ship.place_of(bulkhead)
    if any([beside == bulkhead for beside, _ in ship.doors]):
        raise HasDoor(bulkhead)
    edge = ("bulkhead", bulkhead)
    heights = []
    for piece in chart_of(ship.with_top(bulkhead, ZERO), rule, damages).pieces:
        edges = [told for _, told in piece.floods]
        if edge not in edges:
            lost = [corner for corner in piece.corners if corner in piece]
            return Sunk(Lost(lost[0], piece.damage, piece.floods, piece.wrong))
        # With a top of 0, a cargo exceeds the half-plane of the edge by the height of the line.
        half = piece.halves[len(rule.halves) + edges.index(edge)]
        heights.extend([(half.excess_at(corner), corner in piece) for corner in piece.corners])
    return _limit_at(greatest_of([height for height, _ in heights]), heights) if heights else None


def _limit_at(value, ends):
    """The Limit at the end of a range; ends are couples of a number at a corner and whether that corner is lost."""
    # All but the borders of a piece is lost, so its range is that of its corners, and just lost corners reach an end.
    return Limit(value, any([lost for end, lost in ends if end == value]))
