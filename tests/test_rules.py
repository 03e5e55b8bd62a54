import random
import unittest
from fractions import Fraction

from dryholds.errors import BadCargo, BadFactor, BadRule, BadWeight
from dryholds.halfplanes import HalfPlane
from dryholds.polygons import hull_of, polygon_of
from dryholds.rules import Rule, corner_stowages, is_within, moments_within, parts_by, reach_of, rule_of, same_cargoes
from dryholds.slots import Slots, cargo_by, stowage_fault
from tests.helpers import BIG, NO_RATIOS, NO_SEQUENCES, Case, f, half, in_hull, point, points, r, rs
from tests.test_postures import NO_CARGOES
from tests.test_slots import EXAMPLE, SINGLE, some_slots, total

BOX = (half(-1, 0, -60), half(0, 1, -100), half(0, -1, -100))
WEIGHTS = half(1, 0, 0)


def tent():
    """The cargoes with weight to 6 and moment between minus and plus half the weight."""
    return Rule([half("1/2", 1, 0), half("1/2", -1, 0), half(-1, 0, -6)])


def stretch():
    """The cargoes of weight 1 to 4 with the moment 2 - weight."""
    return Rule([half(1, 1, 2), half(-1, -1, -2), half(1, 0, 1), half(-1, 0, -4)])


def around(many):
    """So many sides, none needless: lines that touch a parabola, and one above."""
    return [half(-2 * at, 1, -at * at) for at in range(1, many)] + [half(0, -1, -many * many)]


def some_rules():
    chance = random.Random(31)
    rules = [Rule(BOX), tent(), stretch(), Rule.at(point(3, "-1/2")), Rule.at(point(0, 0)), rule_of(EXAMPLE)]
    while len(rules) < 25:
        sides = [HalfPlane(*[r(chance.randint(-4, 4), chance.randint(1, 2)) for _ in range(3)]) for _ in range(5)]
        try:
            rules.append(Rule(sides))
        except BadRule:
            pass
    return rules


PLACES = [point(weight, moment) for weight in (-1, 0, 1, "3/2", 3, 6, 60) for moment in (-100, -3, "-1/2", 0, 1, 2, 15)]


class Making(Case):
    def test_attributes(self):
        rule = Rule(list(BOX))
        self.assertEqual(rule.sides, BOX)
        self.assertIs(type(rule.sides), tuple)
        self.assertEqual(rule.halves, (half(1, 0, 0), *BOX))
        self.assertIs(type(rule.halves), tuple)
        self.same(rule.corners, points((0, -100), (60, -100), (60, 100), (0, 100)))
        self.same((rule.halves[0].p, rule.halves[0].q, rule.halves[0].r), rs(1, 0, 0))

    def test_later_changes_have_no_effect(self):
        given = list(BOX)
        rule = Rule(given)
        given.append("more")
        self.assertEqual(rule.sides, BOX)

    def test_corners_are_those_of_the_halves(self):
        self.same(tent().corners, points((0, 0), (6, -3), (6, 3)))
        self.same(stretch().corners, points((1, 1), (4, -2)))
        self.same(Rule([half(-1, 0, 0), half(0, 1, 5), half(0, -1, -5)]).corners, points((0, 5)))
        for rule in some_rules():
            self.same(rule.corners, polygon_of(rule.halves))

    def test_numbers_of_sides(self):
        self.same(len(Rule(around(24)).sides), 24)
        self.same(len(Rule([*BOX, *[half(-1, 0, -60)] * 21]).sides), 24)
        for thing in (*NO_SEQUENCES, [], (), around(25), ["x"] * 25):
            self.refused(BadRule, {"what": "many"}, Rule, thing)

    def test_wrong_sides(self):
        for thing in (None, "x", (1, 0, 0), (r(1), r(0), r(0)), half(1, 0, 0, True), half(0, 0, 0), half(0, 0, 1),
                      half(0, 0, -1), half(0, 0, 0, True)):
            self.refused(BadRule, {"what": "side"}, Rule, [thing])
            self.refused(BadRule, {"what": "side"}, Rule, [*BOX, thing])
            self.refused(BadRule, {"what": "side"}, Rule, [half(-1, 0, 5), thing])

    def test_empty(self):
        for sides in ([half(-1, 0, 1)], [*BOX, half(1, 0, 61)], [half(0, 1, 1), half(0, -1, 0)],
                      [half(1, 0, 1), half(-1, 0, 0)]):
            self.refused(BadRule, {"what": "empty"}, Rule, sides)

    def test_open(self):
        for sides in ([half(1, 0, 0)], [half(-1, 0, -5)], [half(0, 1, 0), half(0, -1, 0)], BOX[1:], BOX[:2],
                      [half(-1, 0, 0)]):
            self.refused(BadRule, {"what": "open"}, Rule, sides)

    def test_weight_from_zero_belongs_to_every_rule(self):
        self.same(Rule([half(-1, -1, -1), half(-1, 1, -1)]).corners, points((0, -1), (1, 0), (0, 1)))
        self.refused(BadRule, {"what": "empty"}, Rule, [half(-1, 0, "1/9"), half(0, 1, 0), half(0, -1, 0)])
        self.refused(BadRule, {"what": "open"}, Rule, [half(-1, 0, 0), half(0, 1, 0)])

    def test_members(self):
        for rule in some_rules():
            for cargo in PLACES:
                wanted = f(cargo[0]) >= 0 and all(
                    f(side.p) * f(cargo[0]) + f(side.q) * f(cargo[1]) >= f(side.r) for side in rule.sides)
                self.assertIs(cargo in rule, wanted)
                self.assertIs(list(cargo) in rule, wanted)
                self.assertIs(cargo not in rule, not wanted)
                self.assertIs(in_hull(cargo, rule.corners), wanted)
        self.assertNotIn(((-1, BIG), r(0)), Rule(BOX))

    def test_equal_rules(self):
        self.assertTrue(Rule(BOX) == Rule(list(BOX)))
        self.assertFalse(Rule(BOX) != Rule(BOX))
        for other in (Rule(BOX[::-1]), Rule([*BOX, BOX[0]]), Rule([half(-2, 0, -120), *BOX[1:]]), tent(), BOX, None):
            self.assertFalse(Rule(BOX) == other)
            self.assertTrue(Rule(BOX) != other)

    def test_one_cargo(self):
        self.assertIsInstance(vars(Rule)["at"], staticmethod)
        for cargo in (point(3, "-1/2"), point(0, 0), point("5/7", 1000), ((1, BIG), (-BIG, 1))):
            rule = Rule.at(list(cargo))
            self.same(rule.corners, (cargo,))
            self.assertLessEqual(len(rule.sides), 4)
            self.assertIn(cargo, rule)
            self.assertIn(cargo, Rule.at(cargo))
        for what, thing in NO_CARGOES:
            self.refused(BadCargo, {"what": what}, Rule.at, thing)

    def test_same_cargoes_and_within(self):
        wider = Rule([*BOX[::-1], half(1, 1, -100)])
        self.assertIs(same_cargoes(Rule(BOX), wider), True)
        self.assertIs(same_cargoes(Rule(BOX), Rule([*BOX, half(1, 1, -99)])), False)
        self.assertIs(is_within(tent(), Rule(BOX)), True)
        self.assertIs(is_within(Rule(BOX), tent()), False)
        self.assertIs(is_within(stretch(), stretch()), True)
        rules = some_rules()
        for one in rules:
            for other in rules:
                self.assertIs(same_cargoes(one, other), one.corners == other.corners)
                self.assertIs(is_within(one, other), all(in_hull(corner, other.corners) for corner in one.corners))


class Telling(Case):
    def test_weights(self):
        self.same((stretch().least_weight, stretch().greatest_weight), rs(1, 4))
        self.same((Rule.at(point("1/2", 9)).least_weight, Rule.at(point("1/2", 9)).greatest_weight), rs("1/2", "1/2"))
        for rule in some_rules():
            weights = [f(weight) for weight, _ in rule.corners]
            self.same((rule.least_weight, rule.greatest_weight), (r(min(weights)), r(max(weights))))

    def test_moments(self):
        self.same(moments_within(tent(), r(2)), rs(-1, 1))
        self.same(moments_within(tent(), r(0)), rs(0, 0))
        self.same(moments_within(tent(), r(6)), rs(-3, 3))
        self.assertIsNone(moments_within(tent(), (6 * BIG + 1, BIG)))
        self.assertIsNone(moments_within(tent(), (-1, BIG)))
        self.same(moments_within(stretch(), r(3)), rs(-1, -1))
        for rule in some_rules():
            for weight in (r(-1), r(0), r("1/2"), r(3), rule.least_weight, rule.greatest_weight):
                got = moments_within(rule, weight)
                if got is None:
                    self.assertTrue(f(weight) < f(rule.least_weight) or f(weight) > f(rule.greatest_weight))
                    continue
                self.assertIs(type(got), tuple)
                least, greatest = f(got[0]), f(got[1])
                self.assertLessEqual(least, greatest)
                for moment, wanted in ((least, True), (greatest, True), ((least + greatest) / 2, True),
                                       (least - Fraction(1, 1000), False), (greatest + Fraction(1, 1000), False)):
                    self.assertIs((weight, r(moment)) in rule, wanted)
        for thing in NO_RATIOS:
            self.refused(BadWeight, {"weight": thing}, moments_within, tent(), thing)

    def test_reach(self):
        self.same(reach_of(tent(), r(1), r(2)), r(12))
        self.same(reach_of(tent(), r(-1), r(0)), r(0))
        self.same(reach_of(Rule.at(point(2, 3)), r("1/2"), r(-1)), r(-2))
        for rule in some_rules():
            for by_weight, by_moment in ((0, 0), (1, 0), (-1, "1/3"), ("2/5", -3)):
                values = [Fraction(by_weight) * f(weight) + Fraction(by_moment) * f(moment)
                          for weight, moment in rule.corners]
                self.same(reach_of(rule, r(by_weight), r(by_moment)), r(max(values)))
        for thing in NO_RATIOS:
            self.refused(BadFactor, {"factor": thing}, reach_of, tent(), thing, "other")
            self.refused(BadFactor, {"factor": thing}, reach_of, tent(), r(1), thing)


class NewRules(Case):
    def belong(self, rule, other, move, half_of):
        """The other rule has the moved cargoes, and each side in its place holds the moved points of the old one."""
        self.assertIs(type(other), Rule)
        self.same(other.corners, hull_of([point(*move(f(weight), f(moment))) for weight, moment in rule.corners]))
        self.assertEqual(len(other.sides), len(rule.sides))
        for old, new in zip(rule.sides, other.sides):
            self.assertTrue(new.is_same(half_of(f(old.p), f(old.q), f(old.r))))

    def test_mirrored(self):
        for rule in some_rules():
            self.belong(rule, rule.mirrored(), lambda w, m: (w, -m), lambda p, q, bound: half(p, -q, bound))

    def test_sheared(self):
        for rule in some_rules():
            for by in (Fraction(0), Fraction(3), Fraction(-1, 2)):
                self.belong(rule, rule.sheared(r(by)), lambda w, m: (w, m + by * w),
                            lambda p, q, bound: half(p - by * q, q, bound))
        for thing in NO_RATIOS:
            self.refused(BadFactor, {"factor": thing}, tent().sheared, thing)

    def test_scaled(self):
        for rule in some_rules():
            for one, other in ((1, 1), (3, "1/2"), ("2/7", 5)):
                one, other = Fraction(one), Fraction(other)
                self.belong(rule, rule.scaled(r(one), r(other)), lambda w, m: (one * w, other * m),
                            lambda p, q, bound: half(p / one, q / other, bound))
        for thing in (r(0), r(-1), (-1, BIG), *NO_RATIOS):
            self.refused(BadFactor, {"factor": thing}, tent().scaled, thing, "other")
            self.refused(BadFactor, {"factor": thing}, tent().scaled, r(1), thing)

    def test_with_side(self):
        more = half(-1, 0, -3)
        rule = tent().with_side(more)
        self.assertEqual(rule.sides, (*tent().sides, more))
        self.same(rule.corners, points((0, 0), (3, "-3/2"), (3, "3/2")))
        self.refused(BadRule, {"what": "many"}, Rule(around(24)).with_side, "x")
        for thing in ("x", None, half(1, 0, 0, True), half(0, 0, 0)):
            self.refused(BadRule, {"what": "side"}, tent().with_side, thing)
        self.refused(BadRule, {"what": "empty"}, tent().with_side, half(1, 0, 7))

    def test_with_most(self):
        rule = tent().with_most(r("5/2"))
        self.assertEqual(rule.sides, (*tent().sides, half(-1, 0, "-5/2")))
        self.same(rule.greatest_weight, r("5/2"))
        self.same(tent().with_most(r(0)).corners, points((0, 0)))
        self.same(tent().with_most(r(9)).corners, tent().corners)
        self.refused(BadRule, {"what": "empty"}, tent().with_most, (-1, BIG))
        self.refused(BadRule, {"what": "many"}, Rule(around(24)).with_most, r(1))
        for thing in NO_RATIOS:
            self.refused(BadWeight, {"weight": thing}, tent().with_most, thing)
            self.refused(BadWeight, {"weight": thing}, Rule(around(24)).with_most, thing)

    def test_parts(self):
        line = half(0, 1, 1)
        one, other = parts_by(tent(), line)
        self.assertEqual(one.sides, (*tent().sides, line))
        self.assertEqual(other.sides[:-1], tent().sides)
        self.assertTrue(other.sides[-1].is_same(half(0, -1, -1)))
        self.same(one.corners, points((2, 1), (6, 1), (6, 3)))
        self.same(other.corners, points((0, 0), (6, -3), (6, 1), (2, 1)))
        self.assertIs(type(parts_by(tent(), line)), tuple)

    def test_parts_that_would_be_empty(self):
        one, other = parts_by(tent(), half(1, 0, 6))
        self.same(one.corners, points((6, -3), (6, 3)))
        self.same(other.corners, tent().corners)
        one, other = parts_by(tent(), HalfPlane(r(1), r(0), (6 * BIG + 1, BIG)))
        self.assertIsNone(one)
        self.same(other.corners, tent().corners)
        one, other = parts_by(tent(), half(1, 0, -1))
        self.same(one.corners, tent().corners)
        self.assertIsNone(other)
        for rule in some_rules():
            for line in (half(1, 1, 2), half(-1, 3, 0), half(0, 1, 1)):
                for part, side in zip(parts_by(rule, line), (line, half(-f(line.p), -f(line.q), -f(line.r)))):
                    wanted = polygon_of([*rule.halves, side])
                    self.assertEqual(part is None, wanted == ())
                    if part is not None:
                        self.same(part.corners, wanted)

    def test_wrong_parts(self):
        for thing in ("x", None, half(1, 0, 0, True), half(0, 0, 0), half(0, 0, 1)):
            self.refused(BadRule, {"what": "side"}, parts_by, tent(), thing)
            self.refused(BadRule, {"what": "side"}, parts_by, Rule(around(24)), thing)
        self.refused(BadRule, {"what": "many"}, parts_by, Rule(around(24)), half(1, 0, 0))
        self.same(len(parts_by(Rule(around(23)), half(1, 0, 1))[0].sides), 24)

    def test_the_rule_stays(self):
        rule = tent()
        for other in (rule.mirrored(), rule.sheared(r(1)), rule.scaled(r(1), r(1)), rule.with_side(WEIGHTS),
                      rule.with_most(r(1))):
            self.assertIsNot(other, rule)
        self.assertEqual(rule, tent())
        self.same(rule.corners, tent().corners)


class OfSlots(Case):
    def test_example(self):
        rule = rule_of(EXAMPLE)
        self.same(rule.corners, points((0, 0), (4, -20), (6, 0), (2, 20)))
        self.same(moments_within(rule, r(3)), rs(-15, 15))
        self.assertIn(point(3, 0), rule)
        self.same(corner_stowages(EXAMPLE), (rs(0, 0), rs(4, 0), rs(4, 2), rs(0, 2)))

    def test_single_slots_and_slots_of_one_place(self):
        self.same(rule_of(SINGLE).corners, points((0, 0), (5, "-35/2")))
        self.same(rule_of(Slots([(r(2), r(1))] * 3, r(2))).corners, points((0, 0), (2, 4)))

    def test_number_of_sides(self):
        six = Slots([(r(place), r(1)) for place in range(6)], r("7/2"))
        self.assertLessEqual(len(rule_of(six).sides), 13)
        self.same(len(rule_of(six).corners), 9)
        for slots in some_slots():
            self.assertLessEqual(len(rule_of(slots).sides), 13)
        most_corners = rule_of(six.shifted(r(-2)).with_most(r("1/2"))).corners
        self.same(len(most_corners), 3)
        whole = rule_of(Slots(six.rows, r("11/2")))
        self.same((len(whole.corners), len(whole.sides)), (13, 13))

    def test_just_the_cargoes_with_a_stowage(self):
        for slots in some_slots():
            rule = rule_of(slots)
            self.same(rule.greatest_weight, r(total(slots)))
            for step in range(5):
                weight = total(slots) * Fraction(step, 4)
                least, greatest = self.bounds(slots, weight)
                self.same(moments_within(rule, r(weight)), (r(least), r(greatest)))
            self.assertIsNone(moments_within(rule, r(total(slots) + Fraction(1, BIG))))

    def bounds(self, slots, weight):
        """The least and greatest moment of a weight, filled by places."""
        found = []
        for sign in (1, -1):
            left, moment = weight, Fraction(0)
            rows = [(f(place), f(most)) for place, most in slots.rows]
            for place, most in sorted(rows, key=lambda row: sign * row[0]):
                moment += place * min(left, most)
                left -= min(left, most)
            found.append(moment)
        return found

    def test_corner_stowages(self):
        for slots in some_slots():
            rule = rule_of(slots)
            stowages = corner_stowages(slots)
            self.assertIs(type(stowages), tuple)
            self.assertEqual(len(stowages), len(rule.corners))
            for amounts, corner in zip(stowages, rule.corners):
                self.assertIs(type(amounts), tuple)
                self.assertIsNone(stowage_fault(slots, amounts, corner))
                self.same(cargo_by(slots, amounts), corner)

    def test_reach_is_a_sum_over_the_slots(self):
        for slots in some_slots():
            loose = Slots(slots.rows)
            for by_weight, by_moment in ((1, 1), (-1, "1/3"), (0, -2)):
                parts = [f(weight) * (by_weight + Fraction(by_moment) * f(place)) for place, weight in slots.rows]
                self.same(reach_of(rule_of(loose), r(by_weight), r(by_moment)), r(sum(max(part, 0) for part in parts)))

    def test_slots_put_one_behind_the_other(self):
        one, other = EXAMPLE, Slots([(r(3), r(2)), (r("-1/2"), r(7))])
        both = Slots([*one.rows, *other.rows])
        sums = [point(f(a) + f(c), f(b) + f(d)) for a, b in rule_of(one).corners for c, d in rule_of(other).corners]
        self.same(rule_of(both).corners, hull_of(sums))

    def test_great_numbers(self):
        slots = Slots([((BIG, BIG - 1), (1, BIG)), (r(-3), (BIG, BIG - 1)), ((1, BIG), (BIG, 1))], (BIG - 1, 1))
        rule = rule_of(slots)
        for amounts, corner in zip(corner_stowages(slots), rule.corners):
            self.assertIsNone(stowage_fault(slots, amounts, corner))


if __name__ == "__main__":
    unittest.main()
