import unittest
from fractions import Fraction

from dryholds import ratios
from dryholds.errors import BadRatio
from dryholds.ratios import ONE, ZERO, compare, greatest_of, is_ratio, is_whole, least_of, make_ratio, minus
from dryholds.ratios import negative, over, plus, ratio_text, sum_of, times
from tests.helpers import BIG, NO_RATIOS, NO_WHOLES, Case, f, r

SAMPLE = [r(top, bottom) for top in (-7, -6, -4, -1, 0, 1, 2, 3, 12) for bottom in (1, 2, 3, 8)]
SAMPLE += [(BIG, BIG - 1), (-BIG, 2), (1, BIG), (BIG - 1, BIG)]


class Wholes(Case):
    def test_whole_numbers(self):
        for thing in (0, 1, -1, 10 ** 400):
            self.assertIs(is_whole(thing), True)

    def test_other_things(self):
        for thing in NO_WHOLES:
            self.assertIs(is_whole(thing), False, thing)
            self.assertIs(is_whole(thing, 0, 5), False, thing)

    def test_bounds_belong_to_it(self):
        self.assertEqual([number for number in range(-3, 9) if is_whole(number, 2, 5)], [2, 3, 4, 5])
        self.assertEqual([number for number in range(-3, 9) if is_whole(number, 2)], list(range(2, 9)))
        self.assertEqual([number for number in range(-3, 9) if is_whole(number, None, 2)], list(range(-3, 3)))
        self.assertEqual([number for number in range(-3, 9) if is_whole(number, low=0, high=0)], [0])
        self.assertIs(is_whole(3, None, None), True)
        self.assertIs(is_whole(3, 4, 2), False)


class Kinds(Case):
    def test_ratios(self):
        for thing in SAMPLE:
            self.assertIs(is_ratio(thing), True, thing)

    def test_other_things(self):
        for thing in NO_RATIOS:
            self.assertIs(is_ratio(thing), False, thing)
        for thing in ((-2, 4), (-1, -2), (3, 3), (BIG * 2, 2), {}, set(), b"ab", object()):
            self.assertIs(is_ratio(thing), False, thing)

    def test_constants(self):
        self.same(ZERO, (0, 1))
        self.same(ONE, (1, 1))


class Making(Case):
    def test_lowest_terms(self):
        for top in range(-12, 13):
            for bottom in [*range(-12, 0), *range(1, 13)]:
                wanted = Fraction(top, bottom)
                self.same(make_ratio(top, bottom), (wanted.numerator, wanted.denominator))

    def test_bottom_left_out_is_one(self):
        self.same(make_ratio(-4), (-4, 1))
        self.same(make_ratio(top=6, bottom=-4), (-3, 2))

    def test_great_numbers(self):
        self.same(make_ratio(6 * BIG, -4 * BIG), (-3, 2))

    def test_refusals(self):
        for thing in NO_WHOLES:
            self.refused(BadRatio, {"what": "top"}, make_ratio, thing)
            self.refused(BadRatio, {"what": "top"}, make_ratio, thing, 0)
            self.refused(BadRatio, {"what": "top"}, make_ratio, thing, thing)
            self.refused(BadRatio, {"what": "bottom"}, make_ratio, 1, thing)
        self.refused(BadRatio, {"what": "bottom"}, make_ratio, 1, 0)
        self.refused(BadRatio, {"what": "bottom"}, make_ratio, 0, 0)


class Reckoning(Case):
    def test_sums_differences_products_and_quotients(self):
        for one in SAMPLE:
            for other in SAMPLE:
                self.same(plus(one, other), r(f(one) + f(other)))
                self.same(minus(one, other), r(f(one) - f(other)))
                self.same(times(one, other), r(f(one) * f(other)))
                if other != ZERO:
                    self.same(over(one, other), r(f(one) / f(other)))

    def test_over_zero_is_refused(self):
        for one in SAMPLE:
            self.refused(BadRatio, {"what": "zero"}, over, one, ZERO)

    def test_negative(self):
        for one in SAMPLE:
            self.same(negative(one), r(-f(one)))

    def test_compare(self):
        for one in SAMPLE:
            for other in SAMPLE:
                self.same(compare(one, other), (f(one) > f(other)) - (f(one) < f(other)))

    def test_sum_of_none_one_and_many(self):
        self.same(sum_of([]), ZERO)
        self.same(sum_of(()), ZERO)
        for many in range(1, len(SAMPLE)):
            self.same(sum_of(SAMPLE[:many]), r(sum(f(one) for one in SAMPLE[:many])))
            self.same(sum_of(tuple(SAMPLE[many:])), r(sum(f(one) for one in SAMPLE[many:])))

    def test_sum_of_leaves_its_list_alone(self):
        given = [ONE, r(1, 2), ONE]
        sum_of(given)
        self.same(given, [ONE, r(1, 2), ONE])

    def test_least_and_greatest(self):
        for many in range(1, len(SAMPLE) + 1):
            for turn in (0, many // 2):
                row = SAMPLE[turn:many] + SAMPLE[:turn]
                self.same(least_of(row), r(min(f(one) for one in row)))
                self.same(greatest_of(tuple(row)), r(max(f(one) for one in row)))
        self.same(least_of([r("1/2"), r("1/3")]), r("1/3"))
        self.same(greatest_of([r("1/3"), r("1/2"), r("2/5")]), r("1/2"))

    def test_order_keys_keep_the_order(self):
        keys = ratios.order_keys(SAMPLE)
        for one, key in zip(SAMPLE, keys):
            for other, beside in zip(SAMPLE, keys):
                self.assertEqual((key > beside) - (key < beside), compare(one, other))


class Texts(Case):
    def test_signs(self):
        self.same(ratio_text((3, 1)), "3")
        self.same(ratio_text((-7, 2)), "-7/2")
        self.same(ratio_text((0, 1)), "0")
        self.same(ratio_text((-1, 1)), "-1")
        self.same(ratio_text((10, 3)), "10/3")

    def test_against_fractions(self):
        for one in SAMPLE:
            self.same(ratio_text(one), str(f(one)))

    def test_numbers_longer_than_str_writes(self):
        figures = "1" + "0" * 63 + "7" * 64 + "0" * 6000 + "3"
        number = 0
        for figure in figures:
            number = 10 * number + int(figure)
        self.same(ratio_text((-number, 1)), "-" + figures)
        self.same(ratio_text((1, number)), "1/" + figures)
        for power in (63, 64, 65, 128, 5000):
            self.same(ratio_text((10 ** power, 1)), "1" + "0" * power)
            self.same(ratio_text((10 ** power - 1, 1)), "9" * power)


if __name__ == "__main__":
    unittest.main()
