import unittest

from dryholds.errors import NoFit
from dryholds.fates import Fate, Unsure, fate_of
from dryholds.fits import Filling, Fit, filling_fault, fitting_rows
from dryholds.lotsfrom import is_lost
from dryholds.readings import Readings
from dryholds.rules import Rule
from dryholds.wrongs import wrongs_of
from tests.helpers import Case, f, have_common, one_hold, point, r, rs
from tests.slices import all_kinds, is_inside
from tests.test_charts import DAMAGES, RULE
from tests.test_fits import AT_TWO, cases
from tests.test_rows import all_orders, halves_along
from tests.test_surely import example
from tests.walks import box, first_lost_row, rocker, tipping, two_holds


def later_lists(ship, fit):
    """For each later row of floods and wrong end of a fit the half-planes of the cargoes that come to it."""
    rows, other = [], Rule.at(point(0, 0))
    for floods, lot in all_orders(ship, fit.lot):
        halves = fit.halves + halves_along(ship, other, fit.lot, floods)[len(other.halves):]
        rows += [(*halves, one) for _, one in wrongs_of(ship, lot)]
    return rows


class Classes(Case):
    def test_attributes_and_equality(self):
        self.same(vars(Fate(name="safe")), {"name": "safe"})
        self.same(vars(Unsure(safe=1, lost=2)), {"safe": 1, "lost": 2})
        self.assertTrue(Fate("lost") == Fate("lost"))
        one, other = Filling((), (), (), point(1, 1)), Filling((), (), (), point(2, 1))
        self.assertTrue(Unsure(one, other) == Unsure(Filling((), (), (), point(1, 1)), other))
        for thing in (Fate("safe"), "lost", None, Unsure(one, other)):
            self.assertFalse(Fate("lost") == thing)
        for thing in (Unsure(other, one), Unsure(one, one), Unsure(other, other), Fate("lost"), None):
            self.assertFalse(Unsure(one, other) == thing)


class Fates(Case):
    def check(self, ship, rule, damages, readings, fits):
        """The name of the fate; what is unsure is looked at lot by lot."""
        got = fate_of(ship, fits)
        if isinstance(got, Fate):
            return got.name
        self.assertIs(type(got), Unsure)
        for seen, lost in ((got.safe, False), (got.lost, True)):
            self.assertIs(type(seen), Filling)
            self.assertIsNone(filling_fault(ship, rule, damages, readings, seen))
            self.same(first_lost_row(ship, seen.lot, seen.cargo) is not None, lost)
            self.same(is_lost(ship, seen.lot, seen.cargo), lost)
        return "unsure"

    def test_the_example(self):
        self.same(self.check(one_hold(), RULE, DAMAGES, AT_TWO, example()), "unsure")
        level = AT_TWO.with_row(*rs(10, 2, 2))
        self.same(self.check(one_hold(), RULE, DAMAGES, level, example(level)), "safe")
        self.assertTrue(is_lost(one_hold(), (0,), point(20, 100)))
        high = Readings.of(rs(0, "41/10", 5))
        self.same(self.check(one_hold(), RULE, DAMAGES, high, example(high)), "lost")

    def test_against_every_lot_that_can_come(self):
        kinds = {}
        for ship, rule, damages, readings in cases(171, 3):
            fits = fitting_rows(ship, rule, damages, readings)
            if not fits or sum(len(all_orders(ship, fit.lot)) for fit in fits) > 60:
                continue
            name = self.check(ship, rule, damages, readings, fits)
            kinds[name] = kinds.get(name, 0) + 1
            some_lost = any(have_common(rows) for fit in fits for rows in later_lists(ship, fit))
            self.same(name != "safe", some_lost)
            lost = [first_lost_row(ship, fit.lot, cargo) is not None for fit in fits for cargo in fit.corners]
            if name == "lost":
                self.assertTrue(all(lost))
            if False in lost:
                self.assertNotEqual(name, "lost")
        self.assertGreater(min(kinds.values()), 10)
        self.assertEqual(len(kinds), 3)

    def test_against_couples_of_all_kinds(self):
        kinds = {}
        ship = two_holds()
        for rule in (box(60, 120, -60, 60), box(0, 120, -200, 200), box(95, 99, -9, 40), box(100, 110, 10, 20)):
            for damages in (((),), ((0,), ()), ((0, 1),)):
                for row in (rs(0, 4, 5), rs(0, "49/10", "51/10"), rs(-10, 2, 5), rs(0, 0, 99), rs(10, 5, 7)):
                    fits = fitting_rows(ship, rule, damages, Readings.of(row))
                    if not fits:
                        continue
                    fates = set()
                    for fit in fits:
                        lines = [one for rows in later_lists(ship, fit) for one in rows]
                        for couple in all_kinds(lines):
                            if is_inside(couple, fit.halves):
                                cargo = (r(couple[0]), r(couple[1]))
                                fates.add(first_lost_row(ship, fit.lot, cargo) is not None)
                    wanted = "unsure" if len(fates) == 2 else "lost" if True in fates else "safe"
                    self.same(self.check(ship, rule, damages, Readings.of(row), fits), wanted)
                    kinds[wanted] = kinds.get(wanted, 0) + 1
        self.assertGreater(min(kinds.values()), 2)
        self.assertEqual(len(kinds), 3)

    def test_one_safe_cargo_on_a_line(self):
        # The line of weight 40 just touches the mark: the one safe cargo of its fit.
        rule = box(40, 60, 0, 0)
        readings = Readings.of(rs(0, 2, 9))
        fits = fitting_rows(one_hold(), rule, ((0,),), readings)
        got = fate_of(one_hold(), fits)
        self.same(got.safe.cargo, point(40, 0))
        self.assertGreater(f(got.lost.cargo[0]), 40)
        above = Readings.of(rs(0, "4001/1000", 9))
        self.assertTrue(fate_of(one_hold(), fitting_rows(one_hold(), rule, ((0,),), above)) == Fate("lost"))

    def test_its_own_lot_counts_and_later_ones(self):
        ship, readings = rocker(), Readings.of(rs(0, 0, 99))
        # With the weight 60 both holds flood, and the line comes to 6; with 90 it is above the mark of 8.
        for weight, wanted in ((10, "safe"), (60, "safe"), (90, "lost")):
            rule = Rule.at(point(weight, 0))
            self.same(self.check(ship, rule, ((),), readings, fitting_rows(ship, rule, ((),), readings)), wanted)

    def test_a_later_lot_that_tips(self):
        ship, rule, readings = tipping(1560), Rule.at(point(60, 0)), Readings.of(rs(0, -99, 99))
        fits = fitting_rows(ship, rule, ((0,),), readings)
        self.assertTrue(fits)
        lost = {first_lost_row(ship, fit.lot, point(60, 0)) is not None for fit in fits}
        self.same(self.check(ship, rule, ((0,),), readings, fits), "lost" if lost == {True} else "unsure")

    def test_a_list_of_fits(self):
        self.same(fate_of(one_hold(), list(example(AT_TWO.with_row(*rs(10, 2, 2))))).name, "safe")
        self.assertIs(type(example()[0]), Fit)

    def test_no_fits(self):
        for fits in ((), []):
            self.refused(NoFit, {}, fate_of, one_hold(), fits)


if __name__ == "__main__":
    unittest.main()
