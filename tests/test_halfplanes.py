import itertools
import unittest
from fractions import Fraction
from math import gcd

from dryholds.errors import BadHalf
from dryholds.halfplanes import HalfPlane
from tests.helpers import BIG, NO_RATIOS, Case, f, half, point, r

NUMBERS = [r(value) for value in ("-3", "-1/2", "0", "2/3", "2")]


def all_halves():
    return [HalfPlane(p, q, bound, strict) for p, q, bound in itertools.product(NUMBERS, repeat=3)
            for strict in (False, True)]


class Making(Case):
    def test_attributes(self):
        one = HalfPlane((1, 2), (-3, 1), (0, 1), True)
        self.same((one.p, one.q, one.r, one.strict), ((1, 2), (-3, 1), (0, 1), True))
        other = HalfPlane(p=(1, 2), q=(-3, 1), r=(0, 1), strict=False)
        self.same(other.strict, False)
        self.same(HalfPlane((1, 2), (-3, 1), (0, 1)).strict, False)

    def test_refusals_in_their_order(self):
        good = (r(1), r(2), r(3), True)
        for at, what in enumerate(("p", "q", "r")):
            for thing in NO_RATIOS:
                self.refused(BadHalf, {"what": what}, HalfPlane, *good[:at], thing, *good[at + 1:])
                self.refused(BadHalf, {"what": what}, HalfPlane, *good[:at], *[thing] * (3 - at), "x")
        for thing in (0, 1, None, "", "True", (0, 1), [], 1.0):
            self.refused(BadHalf, {"what": "strict"}, HalfPlane, *good[:3], thing)

    def test_equal_half_planes(self):
        self.assertTrue(half(1, "1/2", 3) == half(1, "1/2", 3, False))
        self.assertFalse(half(1, "1/2", 3) != half(1, "1/2", 3))
        for other in (half(2, "1/2", 3), half(1, 1, 3), half(1, "1/2", 4), half(1, "1/2", 3, True), half(2, 1, 6),
                      None, (r(1), r("1/2"), r(3), False)):
            self.assertFalse(half(1, "1/2", 3) == other)
            self.assertTrue(half(1, "1/2", 3) != other)


class Rows(Case):
    def test_rows(self):
        for given, row in (((0, 0, 0), (0, 0, 0)), ((0, 0, "-5/3"), (0, 0, -1)), (("1/2", "-1/3", 0), (3, -2, 0)),
                           ((4, 6, -10), (2, 3, -5)), (("2/3", "4/9", "8/27"), (9, 6, 4)), ((-2, 0, 0), (-1, 0, 0)),
                           ((0, "-7/2", 7), (0, -1, 2)), ((BIG, BIG, -BIG), (1, 1, -1))):
            self.same(half(*given).row, row)
            self.same(half(*given, True).row, row)

    def test_rows_are_whole_multiples_without_a_common_factor(self):
        for one in all_halves():
            numbers = [f(one.p), f(one.q), f(one.r)]
            if not any(numbers):
                self.same(one.row, (0, 0, 0))
                continue
            self.assertEqual(gcd(*one.row), 1)
            factors = {Fraction(whole) / number for whole, number in zip(one.row, numbers) if number}
            self.assertEqual(len(factors), 1)
            self.assertGreater(min(factors), 0)
            self.assertEqual([number == 0 for number in numbers], [whole == 0 for whole in one.row])

    def test_great_numbers(self):
        one = HalfPlane((1, BIG), (BIG, 1), (-BIG, BIG - 1))
        self.same(one.row, (BIG - 1, BIG * BIG * (BIG - 1), -BIG * BIG))


class Members(Case):
    def test_excess_and_members(self):
        places = [point(weight, moment) for weight in ("-2", "0", "1/3", "5") for moment in ("-7/2", "0", "3")]
        for one in all_halves():
            for place in places:
                excess = f(one.p) * f(place[0]) + f(one.q) * f(place[1]) - f(one.r)
                self.same(one.excess_at(place), r(excess))
                self.same(one.excess_at(list(place)), r(excess))
                self.same(one.holds_cargo(place), excess > 0 or excess == 0 and not one.strict)
                self.same(one.holds_cargo(list(place)), one.holds_cargo(place))

    def test_points_on_the_line_and_just_beside_it(self):
        for at, wanted in ((r(3), (True, False)), ((3 * BIG + 1, BIG), (True, True)),
                           ((3 * BIG - 1, BIG), (False, False))):
            self.same((half(1, 0, 3).holds_cargo((at, r(0))), half(1, 0, 3, True).holds_cargo((at, r(0)))), wanted)

    def test_opposite(self):
        for one in all_halves():
            other = one.opposite()
            self.same((other.p, other.q, other.r, other.strict),
                      (r(-f(one.p)), r(-f(one.q)), r(-f(one.r)), not one.strict))
            for place in (point(0, 0), point(1, "-3/2"), point(-4, 2)):
                self.same(other.holds_cargo(place), not one.holds_cargo(place))
            self.assertEqual(other.opposite(), one)

    def test_closed(self):
        for one in all_halves():
            self.assertEqual(one.closed(), HalfPlane(one.p, one.q, one.r, False))

    def test_nothing_changes_the_half_plane(self):
        one = half(1, 2, 3, True)
        for other in (one.opposite(), one.closed()):
            self.assertIsNot(other, one)
        self.assertEqual(one, half(1, 2, 3, True))
        self.assertIsNot(half(1, 2, 3).closed(), None)

    def test_reach(self):
        for bound, closed, strict in ((-1, "all", "all"), (0, "all", "none"), (1, "none", "none")):
            self.same(half(0, 0, bound).reach, closed)
            self.same(half(0, 0, bound, True).reach, strict)
        for p, q in ((1, 0), (0, -1), ("1/2", 3)):
            for bound in (-1, 0, 1):
                self.same(half(p, q, bound).reach, "line")
                self.same(half(p, q, bound, True).reach, "line")

    def test_same_points(self):
        for one in all_halves():
            for other in all_halves():
                wanted = one.reach == other.reach and (
                    one.reach != "line" or one.row == other.row and one.strict == other.strict)
                self.assertIs(one.is_same(other), wanted)

    def test_same_points_by_examples(self):
        self.assertIs(half(1, 2, 3).is_same(half("1/2", 1, "3/2")), True)
        self.assertIs(half(1, 2, 3).is_same(half(-1, -2, -3)), False)
        self.assertIs(half(1, 2, 3).is_same(half(1, 2, 3, True)), False)
        self.assertIs(half(0, 0, -3).is_same(half(0, 0, 0)), True)
        self.assertIs(half(0, 0, -3).is_same(half(0, 0, -1, True)), True)
        self.assertIs(half(0, 0, 3).is_same(half(0, 0, 0, True)), True)
        self.assertIs(half(0, 0, 0).is_same(half(0, 0, 0, True)), False)


if __name__ == "__main__":
    unittest.main()
