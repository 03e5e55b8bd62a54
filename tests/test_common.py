import itertools
import unittest
from fractions import Fraction
from math import gcd

from dryholds.common import Barred, Point, all_barred, barred_behind, barred_fault, find_common, needed_halves
from dryholds.common import point_fault
from dryholds.errors import BadPoint
from dryholds.halfplanes import HalfPlane
from dryholds.polygons import polygon_of
from tests.helpers import BIG, NO_RATIOS, NO_SEQUENCES, NO_WHOLES, Case, f, half, have_common, point, r
from tests.test_polygons import any_half, dice


def some_halves(chance, most):
    size = chance.choice((1, 2, 4))
    halves = [any_half(chance, size) for _ in range(chance.randint(0, most))]
    return [HalfPlane(one.p, one.q, one.r, chance.random() < 0.4) for one in halves]


def shut(halves, indices, weights):
    """Whether the weighted sums leave no common point, by the test's own sums."""
    chosen = [halves[index] for index in indices]
    p, q, bound = [sum(weight * f(number) for weight, number in zip(weights, numbers))
                   for numbers in zip(*[(one.p, one.q, one.r) for one in chosen])]
    return p == q == 0 and (bound > 0 or bound == 0 and any(one.strict for one in chosen))


def least_barred(halves):
    """All least barred indices, by trying out."""
    found = []
    for size in (1, 2, 3):
        for indices in itertools.combinations(range(len(halves)), size):
            if not any(set(less) <= set(indices) for less in found):
                if not have_common([halves[index] for index in indices]):
                    found.append(indices)
    return found


class Results(Case):
    def test_points(self):
        self.same(Point((r(1), r(-2))).cargo, ((1, 1), (-2, 1)))
        self.same(Point([r(1), r(-2)]).cargo, ((1, 1), (-2, 1)))
        self.assertTrue(Point(point(1, 2)) == Point(list(point(1, 2))))
        for other in (Point(point(1, 3)), Point(point(2, 2)), point(1, 2), None):
            self.assertFalse(Point(point(1, 2)) == other)

    def test_no_points(self):
        for thing in (*NO_SEQUENCES, (), (r(1),), (r(1), r(1), r(1)), r(1)):
            self.refused(BadPoint, {"index": 0}, Point, thing)
        for thing in NO_RATIOS:
            self.refused(BadPoint, {"index": 0}, Point, (thing, r(0)))
            self.refused(BadPoint, {"index": 0}, Point, (r(0), thing))

    def test_a_later_change_has_no_effect(self):
        given = [r(1), r(2)]
        one = Point(given)
        given[0] = r(5)
        self.same(one.cargo, point(1, 2))

    def test_barred_keeps_what_it_is_given(self):
        indices, weights = [3, "x"], object()
        one = Barred(indices, weights)
        self.assertIs(one.indices, indices)
        self.assertIs(one.weights, weights)
        self.assertEqual(vars(Barred(indices=1, weights=2)), {"indices": 1, "weights": 2})
        self.assertTrue(Barred((1,), (2,)) == Barred((1,), (2,)))
        for other in (Barred((2,), (2,)), Barred((1,), (1,)), ((1,), (2,)), None):
            self.assertFalse(Barred((1,), (2,)) == other)


class Finding(Case):
    def check(self, halves):
        found = find_common(halves)
        wanted = have_common(halves)
        self.assertIs(type(found), Point if wanted else Barred)
        if wanted:
            self.assertIsNone(point_fault(halves, found))
            for one in halves:
                excess = f(one.p) * f(found.cargo[0]) + f(one.q) * f(found.cargo[1]) - f(one.r)
                self.assertTrue(excess > 0 or excess == 0 and not one.strict)
        else:
            self.assertIsNone(barred_fault(halves, found))
            self.assertTrue(shut(halves, found.indices, found.weights))
            for kept in (found.indices, found.weights):
                self.assertIs(type(kept), tuple)
                self.assertEqual({type(number) for number in kept}, {int})
        return found

    def test_any_half_planes(self):
        chance = dice(11)
        kinds = {Point: 0, Barred: 0}
        for _ in range(900):
            halves = some_halves(chance, 7)
            kinds[type(self.check(halves))] += 1
            self.check(tuple(halves))
        self.assertGreater(min(kinds.values()), 200)

    def test_no_half_planes(self):
        self.assertIs(type(find_common([])), Point)
        self.assertIs(type(find_common(())), Point)

    def test_without_end(self):
        for halves in ([half(1, 0, 5)], [half(1, 1, 10 ** 9, True), half(1, -1, 0)], [half(0, 0, 0)],
                       [half(1, 2, 3), half(-1, -2, -3)], [half(0, 0, -1, True), half(0, -1, 0, True)]):
            self.assertIs(type(self.check(halves)), Point)

    def test_single_ones(self):
        self.assertEqual(find_common([half(0, 0, 1)]), Barred((0,), (1,)))
        self.assertEqual(find_common([half(0, 0, 0, True)]), Barred((0,), (1,)))
        self.assertEqual(self.check([half(1, 0, 0), half(0, 0, 2, True)]).indices, (1,))

    def test_touching_half_planes(self):
        for first in (False, True):
            for second in (False, True):
                found = self.check([half(1, 0, 2, first), half(-2, 0, -4, second)])
                self.assertIs(type(found), Barred if first or second else Point)
        corner = [half(1, 0, 0), half(0, 1, 0)]
        self.assertEqual(self.check([*corner, half(-1, -1, 0)]), Point(point(0, 0)))
        for at in range(3):
            strict = [HalfPlane(one.p, one.q, one.r, number == at)
                      for number, one in enumerate([*corner, half(-1, -1, 0)])]
            self.assertEqual(self.check(strict).indices, (0, 1, 2))

    def test_the_one_point_left(self):
        halves = [half(3, 1, 1), half(-3, -1, -1), half(1, -2, 3), half(-1, 2, -3)]
        self.assertEqual(find_common(halves), Point(point("5/7", "-8/7")))

    def test_weights_are_those_of_what_was_passed(self):
        halves = [half("1/2", 0, 3), half("-1/3", 0, 1)]
        found = self.check(halves)
        self.assertEqual(Fraction(found.weights[0], found.weights[1]), Fraction(2, 3))

    def test_great_numbers(self):
        slim = [half(1, 0, 0, True), HalfPlane((-1, BIG), (0, 1), (0, 1)), half(0, 1, 0)]
        self.assertIs(type(self.check(slim)), Barred)
        around = [HalfPlane((BIG, BIG - 1), (1, BIG), (0, 1)), HalfPlane((-BIG, 2), (BIG, 1), (1, BIG)),
                  HalfPlane((1, BIG), (-BIG, 1), (0, 1))]
        self.check(around)
        self.check([one.opposite() for one in around])
        chance = dice(12)
        many = [HalfPlane(*[(BIG - chance.randint(0, 10 ** 6) * 2, 2) for _ in range(3)]) for _ in range(20)]
        self.check(many)
        self.check(many + [many[3].opposite()])

    def test_two_hundred_half_planes(self):
        around = [half(2 * at, -1, at * at) for at in range(-100, 99)]
        self.assertIs(type(self.check([one.opposite() for one in around] + [half(0, -1, "-1/100")])), Point)
        self.assertIs(type(self.check([one.opposite() for one in around] + [half(0, -1, "1/4")])), Barred)
        through = [half(at, 1, 0, True) for at in range(-100, 99)]
        self.assertIs(type(self.check(through + [half(0, -1, 0)])), Barred)

    def test_what_is_passed_stays(self):
        halves = [half(1, 0, 1), half(-1, 0, 0)]
        find_common(halves)
        list(all_barred(halves))
        needed_halves(halves)
        self.assertEqual(halves, [half(1, 0, 1), half(-1, 0, 0)])


class Judging(Case):
    halves = [half(1, 0, 1), half(-1, 0, 0), half(0, 1, 0), half(-1, -1, 0, True), half(0, 0, 0, True),
              half(0, 0, -1), half("1/2", 0, 0)]

    def fault(self, indices, weights):
        return barred_fault(self.halves, Barred(indices, weights))

    def test_right_ones(self):
        for indices, weights in (((0, 1), (1, 1)), ([0, 1], [3, 3]), ((4,), (7,)), ((0, 2, 3), (1, 1, 1)),
                                 ((2, 3, 6), (1, 1, 2)), ((0, 1, 4), (1, 1, 5))):
            self.assertIsNone(self.fault(indices, weights))

    def test_many(self):
        for thing in (*NO_SEQUENCES, (), [], (0, 1, 2, 3)):
            self.same(self.fault(thing, None), "many")

    def test_order(self):
        for indices in ((0, 0), (1, 0), (-1,), (7,), (0, 7), (0, 1, 1), (0, 2, 1), (-1, 0), (0, "x"), [True],
                        (0, True), (False, 1), (0.0,)):
            self.same(self.fault(indices, None), "order")
        self.same(barred_fault([], Barred((0,), (1,))), "order")
        for thing in NO_WHOLES:
            self.same(self.fault((0, thing), (1, 1)), "order")

    def test_weights(self):
        for weights in (*NO_SEQUENCES, (), (1,), (1, 1, 1), (0, 1), (1, 0), (-1, -1), (1, True), (True, 1), (1, 1.0),
                        (r(1), r(1))):
            self.same(self.fault((0, 1), weights), "weights")

    def test_normals(self):
        for indices, weights in (((0, 1), (1, 2)), ((0,), (1,)), ((2,), (1,)), ((2, 3, 6), (1, 1, 1)),
                                 ((0, 2, 3), (1, 2, 1)), ((0, 2, 3), (2, 1, 1)), ((1, 6), (1, 1))):
            self.same(self.fault(indices, weights), "normals")

    def test_bounds(self):
        self.same(self.fault((5,), (1,)), "bounds")
        self.same(self.fault((1, 6), (1, 2)), "bounds")
        self.same(self.fault((0, 1, 5), (1, 1, 1)), "bounds")
        self.same(barred_fault([half(1, 0, -1), half(-1, 0, 0, True)], Barred((0, 1), (1, 1))), "bounds")
        self.assertIsNone(barred_fault([half(1, 0, 0), half(-1, 0, 0, True)], Barred((0, 1), (1, 1))))
        self.same(barred_fault([half(1, 0, 0), half(-1, 0, 0), half(0, 1, 0, True)], Barred((0, 1), (1, 1))), "bounds")
        self.assertIsNone(self.fault((0, 1, 5), (2, 2, 1)))

    def test_sums_are_those_of_what_was_passed(self):
        halves = [half("1/2", 0, 3), half("-1/3", 0, 1)]
        self.assertIsNone(barred_fault(halves, Barred((0, 1), (2, 3))))
        self.same(barred_fault(halves, Barred((0, 1), (1, 1))), "normals")

    def test_any_claims(self):
        chance = dice(13)
        for _ in range(400):
            halves = some_halves(chance, 5)
            size = chance.randint(1, 3)
            if size <= len(halves):
                indices = tuple(sorted(chance.sample(range(len(halves)), size)))
                weights = tuple(chance.randint(1, 2) for _ in indices)
                found = barred_fault(halves, Barred(indices, weights))
                self.assertIs(found is None, shut(halves, indices, weights))
                if found is None:
                    self.assertFalse(have_common(halves))

    def test_points(self):
        halves = [half(1, 0, 0), half(0, 1, 0, True), half(-1, -1, -2)]
        for place, wanted in ((point(1, 1), None), (point(0, 1), None), (point(1, 0), 1), (point(-1, -1), 0),
                              (point(0, 0), 1), (point(3, 3), 2), (point(0, 3), 2)):
            self.same(point_fault(halves, Point(place)), wanted)
        self.assertIsNone(point_fault([], Point(point(0, 0))))


class All(Case):
    def test_examples(self):
        halves = [half(1, 0, 1), half(-2, 0, 0), half(0, "1/2", 0), half(-1, -1, 0, True), half(0, 0, 1),
                  half("1/3", 0, 0)]
        found = [(one.indices, one.weights) for one in all_barred(halves)]
        self.same(found, [((4,), (1,)), ((0, 1), (2, 1)), ((0, 2, 3), (1, 2, 1)), ((2, 3, 5), (2, 1, 3))])

    def test_any_half_planes(self):
        chance = dice(14)
        for _ in range(250):
            halves = some_halves(chance, 7)
            found = list(all_barred(halves))
            self.assertEqual([one.indices for one in found], least_barred(halves))
            self.assertEqual(not found, have_common(halves))
            for one in found:
                self.assertIs(type(one), Barred)
                self.assertIs(type(one.weights), tuple)
                self.assertTrue(shut(halves, one.indices, one.weights))
                self.assertIsNone(barred_fault(halves, one))
                self.assertEqual(gcd(*one.weights), 1)

    def test_least_weights(self):
        halves = [half("2/3", 0, 1), half("-4/9", 0, 0)]
        self.same([one.weights for one in all_barred(halves)], [(2, 3)])
        self.same([one.weights for one in all_barred([half(4, 0, 1), half(-4, 0, 0)])], [(1, 1)])
        self.same([one.weights for one in all_barred([half(6, 0, 1), half(0, 4, 0), half(-3, -2, 0)])], [(1, 1, 2)])

    def test_equal_half_planes_are_told_each(self):
        halves = [half(1, 0, 1), half(1, 0, 1), half(-1, 0, 0), half(-1, 0, 0)]
        self.same([one.indices for one in all_barred(halves)], [(0, 2), (0, 3), (1, 2), (1, 3)])

    def test_it_yields(self):
        found = all_barred([half(1, 0, 1), half(-1, 0, 0)])
        self.assertIs(iter(found), found)
        self.assertEqual(next(found), Barred((0, 1), (1, 1)))
        with self.assertRaises(StopIteration):
            next(found)

    def test_forty_half_planes(self):
        around = [half(2 * at, 1, at * at) for at in range(-20, 19)] + [half(0, -1, 1)]
        found = list(all_barred(around))
        self.assertTrue(found)
        for one in found:
            self.assertTrue(shut(around, one.indices, one.weights))
        self.same(list(all_barred([])), [])


class Needed(Case):
    def wanted(self, halves):
        kept = list(range(len(halves)))
        for index in range(len(halves)):
            others = [other for other in kept if other != index]
            if not have_common([halves[other] for other in others] + [halves[index].opposite()]):
                kept = others
        return tuple(kept)

    def test_examples(self):
        square = [half(1, 0, 0), half(0, 1, 0), half(-1, 0, -2), half(0, -1, -2)]
        self.same(needed_halves(square), (0, 1, 2, 3))
        self.same(needed_halves(tuple([half(1, 1, 0), *square, half(0, 0, 0)])), (1, 2, 3, 4))
        self.same(needed_halves([half(1, 0, 0), half(1, 0, 0)]), (1,))
        self.same(needed_halves([half(1, 0, 0), half(1, 0, 0, True)]), (1,))
        self.same(needed_halves([half(1, 0, 0, True), half(1, 0, 0)]), (0,))
        self.same(needed_halves([half(1, 0, 0), half(1, 0, 1)]), (1,))
        self.same(needed_halves([half(0, 0, -1)]), ())
        self.same(needed_halves([]), ())

    def test_no_common_point_leaves_least_barred(self):
        self.same(needed_halves([half(0, 0, 1), half(1, 0, 1), half(-1, 0, 0)]), (1, 2))
        self.same(needed_halves([half(1, 0, 1), half(-1, 0, 0), half(0, 0, 1)]), (2,))

    def test_any_half_planes(self):
        chance = dice(15)
        for _ in range(250):
            halves = some_halves(chance, 7)
            found = needed_halves(halves)
            self.same(found, self.wanted(halves))
            if not have_common(halves):
                self.assertIn(found, least_barred(halves))

    def test_forty_half_planes(self):
        around = [half(-2 * at, 1, -at * at) for at in range(-20, 19)]
        self.same(needed_halves(around + [half(0, 1, -5)]), tuple(range(39)))
        self.same(needed_halves([half(0, 1, -5)] + around), tuple(range(1, 40)))


class Behind(Case):
    def test_one_half_plane_behind_a_polygon(self):
        chance = dice(16)
        barred = 0
        for _ in range(150):
            # Many lines cross in one corner here, and some polygons are a stretch or one point.
            through = [half(chance.randint(-3, 3), chance.randint(-3, 3), 0) for _ in range(chance.randint(0, 6))]
            halves = [half(1, 0, -4), half(-1, 0, -4), half(0, 1, -4), half(0, -1, -4)] + through
            corners = polygon_of(halves)
            for _ in range(5):
                more = half(chance.randint(-3, 3), chance.randint(-3, 3), chance.randint(0, 4), chance.random() < 0.5)
                if more.reach == "line" and not have_common([*halves, more]):
                    found = barred_behind(tuple(halves), corners, more)
                    self.assertIsNone(barred_fault([*halves, more], found))
                    self.assertTrue(shut([*halves, more], found.indices, found.weights))
                    self.same(found.indices[-1], len(halves))
                    barred += 1
        self.assertGreater(barred, 100)

    def test_many_lines_through_one_point(self):
        fan = [half(at, 100 - at * at, 0) for at in range(-9, 10)]
        for more in (half(0, -1, 0, True), half(0, -1, 1), half(-1, -50, 0, True)):
            found = find_common([*fan, half(0, -1, -5), more])
            self.assertTrue(shut([*fan, half(0, -1, -5), more], found.indices, found.weights))


if __name__ == "__main__":
    unittest.main()
