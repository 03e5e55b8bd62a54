"""Rules: sets of cargoes that are bounded by sides."""
from dryholds.errors import BadFactor, BadRule, BadWeight, Unbounded
from dryholds.halfplanes import HalfPlane
from dryholds.lots import check_cargo
from dryholds.polygons import added_polygons, cut_polygon, halves_of, hull_of, polygon_of
from dryholds.ratios import ZERO, ONE, is_ratio, is_sequence
from dryholds.ratios import compare, greatest_of, least_of, minus, negative, over, plus, times
from dryholds.slots import stowage_for


class Rule:
    """All cargoes that lie in closed half-planes, its sides."""

    def __init__(self, sides):
        if not is_sequence(sides, 1, 24):
            raise BadRule("many")
        if not all([_is_side(side) for side in sides]):
            raise BadRule("side")
        self.sides = tuple(sides)
        self.halves = (HalfPlane(ONE, ZERO, ZERO), *self.sides)
        self.corners = _corners_of(self.halves)

    def __eq__(self, other):
        return isinstance(other, Rule) and self.sides == other.sides

    def __contains__(self, cargo):
        return all([half.holds_cargo(cargo) for half in self.halves])

    @staticmethod
    def at(cargo):
        """A rule of one cargo alone."""
        return Rule(halves_of((check_cargo(cargo),)))

    @property
    def least_weight(self):
        """The least weight of its cargoes."""
        return least_of([weight for weight, _ in self.corners])

    @property
    def greatest_weight(self):
        """The greatest weight of its cargoes."""
        return greatest_of([weight for weight, _ in self.corners])

    def mirrored(self):
        """The rule with each moment's sign changed."""
        return Rule([HalfPlane(side.p, negative(side.q), side.r) for side in self.sides])

    def sheared(self, by):
        """The rule with so many times the weight added to each moment."""
        if not is_ratio(by):
            raise BadFactor(by)
        return Rule([HalfPlane(minus(side.p, times(by, side.q)), side.q, side.r) for side in self.sides])

    def scaled(self, by_weight, by_moment):
        """The rule with each weight and each moment times a factor."""
        for factor in (by_weight, by_moment):
            if not is_ratio(factor) or compare(factor, ZERO) <= 0:
                raise BadFactor(factor)
        return Rule([HalfPlane(over(side.p, by_weight), over(side.q, by_moment), side.r) for side in self.sides])

    def with_side(self, half):
        """The rule with one more side."""
        return Rule([*self.sides, half])

    def with_most(self, weight):
        """The rule with a bound on the weight."""
        if not is_ratio(weight):
            raise BadWeight(weight)
        return self.with_side(HalfPlane(negative(ONE), ZERO, negative(weight)))


def _is_side(thing):
    return isinstance(thing, HalfPlane) and not thing.strict and thing.reach == "line"


def _corners_of(halves):
    try:
        corners = polygon_of(halves)
    except Unbounded:
        raise BadRule("open") from None
    if not corners:
        raise BadRule("empty")
    return corners


def same_cargoes(one, other):
    """Whether two rules have the same cargoes."""
    return one.corners == other.corners


def is_within(one, other):
    """Whether each cargo of the first rule is one of the second."""
    return all([corner in other for corner in one.corners])


def moments_within(rule, weight):
    """The least and the greatest moment of a rule's cargoes of one weight, None if there is none."""
    if not is_ratio(weight):
        raise BadWeight(weight)
    least = HalfPlane(ONE, ZERO, weight)
    most = HalfPlane(negative(ONE), ZERO, negative(weight))
    corners = cut_polygon(cut_polygon(rule.corners, least), most)
    if not corners:
        return None
    return (corners[0][1], corners[-1][1])


def reach_of(rule, by_weight, by_moment):
    """The greatest value of by_weight * weight + by_moment * moment over a rule's cargoes."""
    for factor in (by_weight, by_moment):
        if not is_ratio(factor):
            raise BadFactor(factor)
    return greatest_of([plus(times(by_weight, weight), times(by_moment, moment)) for weight, moment in rule.corners])


def parts_by(rule, half):
    """The parts of a rule on both sides of a line, each None if it is empty."""
    if not _is_side(half):
        raise BadRule("side")
    if len(rule.sides) == 24:
        raise BadRule("many")
    return (_part_within(rule, half), _part_within(rule, half.opposite().closed()))


def _part_within(rule, half):
    if not cut_polygon(rule.corners, half):
        return None
    return rule.with_side(half)


def rule_of(slots):
    """A rule of just the cargoes that have a stowage."""
    corners = ((ZERO, ZERO),)
    for place, weight in slots:
        corners = added_polygons(corners, hull_of([(ZERO, ZERO), (weight, times(weight, place))]))
    if slots.most is not None:
        corners = cut_polygon(corners, HalfPlane(negative(ONE), ZERO, negative(slots.most)))
    return Rule(halves_of(corners))


def corner_stowages(slots):
    """One stowage for each corner of the rule of slots."""
    return tuple([stowage_for(slots, corner) for corner in rule_of(slots).corners])
