import unittest

from dryholds.errors import BadPlace, NoFit
from dryholds.fits import Filling, filling_fault, fitting_rows
from dryholds.readings import Readings
from dryholds.surely import fitting_damages, height_range, moment_range, possibly_flooded, surely_flooded
from dryholds.surely import two_fillings, weight_range
from tests.helpers import NO_RATIOS, NO_WHOLES, Case, f, one_hold, r, rs
from tests.test_charts import DAMAGES, RULE
from tests.test_fits import AT_TWO, cases
from tests.walks import height


def fits_of(seed, many):
    for ship, rule, damages, readings in cases(seed, many):
        fits = fitting_rows(ship, rule, damages, readings)
        if fits:
            yield ship, rule, damages, readings, fits


def example(readings=AT_TWO, damages=DAMAGES):
    return fitting_rows(one_hold(), RULE, damages, readings)


class Holds(Case):
    def test_the_example(self):
        fits = example()
        self.same((surely_flooded(fits), possibly_flooded(fits), fitting_damages(fits)), ((), (0,), ((), (0,))))
        self.same((weight_range(fits), moment_range(fits)), (rs(20, 40), rs(-100, 100)))
        self.same(height_range(one_hold(), fits, r(0)), rs(2, 2))
        self.same(height_range(one_hold(), fits, r(10)), rs(-1, 5))
        self.same(moment_range(example(AT_TWO.with_row(*rs(10, 2, 2)))), rs(0, 0))

    def test_every_fit_and_some_fit(self):
        kinds = {}
        for ship, _, _, _, fits in fits_of(151, 4):
            lots = [fit.lot for fit in fits]
            sure = tuple(at for at in range(len(ship)) if all(at in lot for lot in lots))
            possible = tuple(at for at in range(len(ship)) if any(at in lot for lot in lots))
            self.same(surely_flooded(fits), sure)
            self.same(possibly_flooded(list(fits)), possible)
            kinds[(len(sure) > 0, possible > sure)] = True
        self.assertEqual(len(kinds), 4)

    def test_unlike_damages(self):
        for fits in (example(), example(damages=((0,), (), (0,)))):
            self.same(sorted(fitting_damages(fits)), [(), (0,)])
        self.same(fitting_damages(example(damages=((0,), (), (0,)))), ((0,), ()))
        for _, _, damages, _, fits in fits_of(152, 2):
            wanted = []
            for damage in damages:
                if damage not in wanted and any(fit.damage == damage for fit in fits):
                    wanted.append(damage)
            self.same(fitting_damages(fits), tuple(wanted))


class Bounds(Case):
    def test_over_all_corners_of_all_fits(self):
        for ship, rule, damages, readings, fits in fits_of(153, 3):
            cargoes = [(fit, cargo) for fit in fits for cargo in fit.corners]
            first, last = ship.ends
            numbers = [(weight_range(fits), [f(weight) for _, (weight, _) in cargoes]),
                       (moment_range(fits), [f(moment) for _, (_, moment) in cargoes])]
            for place in (r(first), r(last, 3), r(last + 70), readings.rows[0][0]):
                numbers.append((height_range(ship, fits, place),
                                [height(ship, fit.lot, cargo, f(place)) for fit, cargo in cargoes]))
            for got, wanted in numbers:
                self.assertIs(type(got), tuple)
                self.same(got, (r(min(wanted)), r(max(wanted))))
                # Each bound is attained by a filling.
                for end in (wanted.index(min(wanted)), wanted.index(max(wanted))):
                    fit, cargo = cargoes[end]
                    filling = Filling(fit.damage, fit.floods, fit.lot, cargo)
                    self.assertIsNone(filling_fault(ship, rule, damages, readings, filling))

    def test_heights_at_a_place_that_was_read(self):
        for ship, _, _, readings, fits in fits_of(154, 0):
            for place, low, high in readings:
                least, greatest = height_range(ship, fits, place)
                self.assertLessEqual(f(low), f(least))
                self.assertLessEqual(f(greatest), f(high))

    def test_a_list_of_fits(self):
        fits = list(example())
        self.same((weight_range(fits), height_range(one_hold(), fits, r(0))), (rs(20, 40), rs(2, 2)))


class TwoFillings(Case):
    def test_with_the_hold_and_without_it(self):
        kinds = {}
        for ship, rule, damages, readings, fits in fits_of(155, 4):
            for number in range(len(ship)):
                flooded = [number in fit.lot for fit in fits]
                got = two_fillings(fits, number)
                kinds[(any(flooded), all(flooded))] = True
                if all(flooded) or not any(flooded):
                    self.assertIsNone(got)
                    continue
                self.same((type(got), len(got)), (tuple, 2))
                self.same((number in got[0].lot, number in got[1].lot), (True, False))
                for filling in got:
                    self.assertIsNone(filling_fault(ship, rule, damages, readings, filling))
        self.assertEqual(len(kinds), 3)

    def test_what_is_no_hold_is_flooded_in_no_fit(self):
        for thing in (*NO_WHOLES, -1, 1, 9):
            self.assertIsNone(two_fillings(example(), thing))
        self.same([len(filling.lot) for filling in two_fillings(example(), 0)], [1, 0])


class Errors(Case):
    def test_no_fits(self):
        for fits in ((), [], example(Readings.of(rs(0, 50, 60)))):
            for call in (surely_flooded, possibly_flooded, fitting_damages, weight_range, moment_range):
                self.refused(NoFit, {}, call, fits)
            self.refused(NoFit, {}, two_fillings, fits, 0)
            self.refused(NoFit, {}, height_range, one_hold(), fits, r(0))

    def test_the_place_comes_first(self):
        for thing in NO_RATIOS:
            self.refused(BadPlace, {"place": thing}, height_range, one_hold(), (), thing)
            self.refused(BadPlace, {"place": thing}, height_range, one_hold(), example(), thing)


if __name__ == "__main__":
    unittest.main()
