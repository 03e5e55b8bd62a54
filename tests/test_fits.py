import unittest
from fractions import Fraction

from dryholds.errors import BadDamages
from dryholds.fits import Filling, Fit, filling_fault, fitting_rows
from dryholds.polygons import polygon_of
from dryholds.postures import line_row
from dryholds.readings import Readings, readings_of
from dryholds.rules import Rule
from tests.helpers import NO_RATIOS, NO_SEQUENCES, Case, all_lots_of, f, half, have_common, one_hold, point, points, r
from tests.helpers import rs, three_holds
from tests.test_cells import is_in
from tests.test_charts import DAMAGES, RULE
from tests.test_damages import NO_DAMAGES
from tests.test_rows import LINE, all_orders, halves_along, small_rules
from tests.walks import SHIPS, box, corners_and_more, height, rocker, some_ships, tipping, tips, walk

AT_TWO = Readings((rs(0, 2, 2),))


def shows(ship, lot, cargo, readings):
    """Whether the line is, at each place, as it was read."""
    if tips(ship, lot):
        return False
    return all(f(low) <= height(ship, lot, cargo, f(place)) <= f(high) for place, low, high in readings.rows)


def shown_halves(ship, lot, readings):
    """The half-planes of what was read, by the words of the document."""
    halves = []
    for place, low, high in readings.rows:
        p, q, rest = [f(one) for one in line_row(ship, lot, place)]
        halves += [half(p, q, f(low) - rest), half(-p, -q, rest - f(high))]
    return tuple(halves)


def readings_for(ship, rule, damages):
    """Readings that some fillings show and some do not."""
    first, last = ship.ends
    places = (r(first - 1), r(first + last, 2), r(last))
    found = []
    for cargo in rule.corners[:2]:
        for damage in damages[:2]:
            got = readings_of(ship, damage, cargo, places)
            if isinstance(got, Readings):
                heights = [f(low) for _, low, _ in got.rows]
                found.append(Readings([(places[1], r(heights[1] - 1), r(heights[1] + Fraction(1, 2)))]))
                found.append(Readings([(places[0], r(heights[0]), r(heights[0] + 2)),
                                       (places[2], r(heights[2] - 3), r(heights[2]))]))
                found.append(got)
    return found + [Readings.of((places[1], r(-1000), r(1000)), (places[2], r(-9999), r(9999)))]


def cases(seed, many):
    """Ships, rules, damages and readings of many kinds."""
    for ship in SHIPS + tuple(some_ships(seed, many)):
        lots = all_lots_of(len(ship))
        damages = (lots[1], lots[0], lots[1])
        for rule in small_rules(ship)[::3] + (small_rules(ship)[2],):
            for readings in readings_for(ship, rule, damages):
                yield ship, rule, damages, readings


def told(fit):
    return {name: thing for name, thing in vars(fit).items() if name != "halves"}


class Classes(Case):
    def test_a_fit(self):
        things = {"damage": [0], "floods": [[1, ["port", 0]]], "lot": [0, 1], "halves": [half(1, 0, 3)],
                  "corners": [point(3, 0)]}
        fit = Fit(**things)
        things["floods"].append("more")
        self.same(told(fit), {"damage": (0,), "floods": ((1, ("port", 0)),), "lot": (0, 1), "corners": points((3, 0))})
        self.assertEqual(fit.halves, (half(1, 0, 3),))
        self.same((point(3, 0) in fit, point(2, 0) in fit, list(point(3, 9)) in fit), (True, False, True))

    def test_equal_fits(self):
        things = ((0,), (), (0,), (half(1, 0, 3),), points((3, 0)))
        self.assertTrue(Fit(*things) == Fit(*things))
        for at, other in enumerate(((), ((1, ("port", 0)),), (1,), (half(1, 0, 3, True),), points((4, 0)))):
            self.assertFalse(Fit(*things) == Fit(*things[:at], other, *things[at + 1:]))
        self.assertFalse(Fit(*things) == Filling(*things[:4]))
        self.assertFalse(Fit(*things) == things)

    def test_a_filling(self):
        filling = Filling(damage=(0,), floods=((1, ("port", 0)),), lot=(0, 1), cargo=point(3, 1))
        self.same(vars(filling), {"damage": (0,), "floods": ((1, ("port", 0)),), "lot": (0, 1), "cargo": point(3, 1)})
        things = ((0,), (), (0,), point(3, 1))
        self.assertTrue(Filling(*things) == Filling(*things))
        for at, other in enumerate(((), ((1, ("port", 0)),), (1,), point(3, 2))):
            self.assertFalse(Filling(*things) == Filling(*things[:at], other, *things[at + 1:]))
        self.assertFalse(Filling(*things) == None)  # noqa: E711
        self.assertFalse(Filling(*things) == Fit(*things, ()))

    def test_they_check_nothing(self):
        self.same(vars(Filling(None, 0, "x", 7)), {"damage": None, "floods": 0, "lot": "x", "cargo": 7})
        self.same(vars(Fit(None, 0, "x", 7, ())), {"damage": None, "floods": 0, "lot": "x", "halves": 7, "corners": ()})


class Fitting(Case):
    def test_the_example(self):
        fits = fitting_rows(one_hold(), RULE, DAMAGES, AT_TWO)
        self.same([told(fit) for fit in fits],
                  [{"damage": (), "floods": (), "lot": (), "corners": points((40, -100), (40, 100))},
                   {"damage": (0,), "floods": (), "lot": (0,), "corners": points((20, -100), (20, 100))}])
        level = fitting_rows(one_hold(), RULE, DAMAGES, AT_TWO.with_row(*rs(10, 2, 2)))
        self.same([fit.corners for fit in level], [points((40, 0)), points((20, 0))])
        self.same(fitting_rows(one_hold(), RULE, DAMAGES, Readings.of(rs(0, 7, 9))), ())

    def test_every_damage_and_row(self):
        found = 0
        for ship, rule, damages, readings in cases(141, 5):
            wanted = []
            for damage in damages:
                for floods, lot in all_orders(ship, damage):
                    if not tips(ship, lot):
                        halves = halves_along(ship, rule, damage, floods) + shown_halves(ship, lot, readings)
                        if have_common(halves):
                            wanted.append((damage, floods, lot, halves))
            fits = fitting_rows(ship, rule, [list(damage) for damage in damages], readings)
            self.assertIs(type(fits), tuple)
            self.same([told(fit) for fit in fits],
                      [{"damage": damage, "floods": floods, "lot": lot, "corners": polygon_of(halves)}
                       for damage, floods, lot, halves in wanted])
            self.assertEqual([fit.halves for fit in fits], [halves for *_, halves in wanted])
            found += len(fits)
        self.assertGreater(found, 300)

    def test_filling_by_filling(self):
        shown = 0
        for ship, rule, damages, readings in cases(142, 2):
            fits = fitting_rows(ship, rule, damages, readings)
            for cargo in corners_and_more(rule)[:7] + [fit.corners[-1] for fit in fits[:3]]:
                for damage in damages[:2]:
                    for floods, lot in walk(ship, damage, cargo):
                        wanted = shows(ship, lot, cargo, readings)
                        those = [fit for fit in fits if (fit.damage, fit.floods) == (damage, floods)]
                        self.same(any(cargo in fit for fit in those), wanted)
                        got = filling_fault(ship, rule, damages, readings, Filling(damage, floods, lot, cargo))
                        self.same(got, None if wanted else "line")
                        shown += wanted
        self.assertGreater(shown, 100)

    def test_corners_are_fillings(self):
        for ship, rule, damages, readings in cases(143, 0):
            for fit in fitting_rows(ship, rule, damages, readings):
                for cargo in fit.corners:
                    filling = Filling(fit.damage, fit.floods, fit.lot, cargo)
                    self.assertIsNone(filling_fault(ship, rule, damages, readings, filling))
                    self.assertTrue(is_in(cargo, fit.halves) and cargo in fit)

    def test_a_further_row_never_adds_a_fit(self):
        for ship, rule, damages, readings in cases(144, 2):
            if len(readings) < 3:
                before = [(fit.damage, fit.floods) for fit in fitting_rows(ship, rule, damages, readings)]
                for row in (rs(1000, 0, 0), rs("1/7", 1, 5), rs(-500, -99999, 99999)):
                    more = fitting_rows(ship, rule, damages, readings.with_row(*row))
                    self.assertLessEqual({(fit.damage, fit.floods) for fit in more}, set(before))

    def test_two_sure_rows_leave_each_lot_at_most_one_cargo(self):
        some = 0
        for ship, rule, damages, readings in cases(145, 4):
            sure = [row for row in readings.rows if row[1] == row[2]]
            if len(sure) > 1:
                left = {}
                for fit in fitting_rows(ship, rule, damages, readings):
                    self.same(len(fit.corners), 1)
                    left.setdefault(fit.lot, set()).add(fit.corners[0])
                self.assertTrue(all(len(cargoes) == 1 for cargoes in left.values()))
                some += len(left)
        self.assertGreater(some, 20)

    def test_a_line_just_at_low_or_at_high(self):
        rule = Rule.at(point(40, 0))
        for row, many in ((rs(0, 2, 3), 1), (rs(0, 1, 2), 1), (rs(0, "201/100", 3), 0), (rs(0, 1, "199/100"), 0)):
            self.same(len(fitting_rows(one_hold(), rule, ((),), Readings.of(row))), many)

    def test_places_beyond_the_ends(self):
        # With (40, 100) the line is 2 + 3 x / 20: 152 at the place 1000.
        rule = Rule.at(point(40, 100))
        for row, many in ((rs(1000, 152, 152), 1), (rs(-1000, -148, -148), 1), (rs(1000, 151, "1519/10"), 0)):
            self.same(len(fitting_rows(one_hold(), rule, ((),), Readings.of(row))), many)

    def test_lots_that_tip_fit_nothing(self):
        wide = Readings.of(rs(0, -10 ** 6, 10 ** 6))
        self.same(fitting_rows(tipping(2000), box(0, 99, -9, 9), ((0, 1),), wide), ())
        lots = {fit.lot for fit in fitting_rows(tipping(1560), box(0, 500, -900, 900), ((0,),), wide)}
        self.same(any(tips(tipping(1560), lot) for lot in lots), False)
        rows = [floods for floods, _ in all_orders(tipping(1560), (0,))]
        self.assertGreater(len(rows), len(lots))

    def test_equal_damages_fit_each_time(self):
        fits = fitting_rows(one_hold(), RULE, ((0,), (), (0,)), AT_TWO)
        self.same([fit.damage for fit in fits], [(0,), (), (0,)])
        self.assertTrue(fits[0] == fits[2])

    def test_errors(self):
        for index, what, thing in NO_DAMAGES:
            self.refused(BadDamages, {"index": index, "what": what}, fitting_rows, three_holds(), LINE, thing, AT_TWO)
            self.refused(BadDamages, {"index": index, "what": what}, filling_fault, three_holds(), LINE, thing, AT_TWO,
                         None)


class Judge(Case):
    SHIP, RULE, DAMAGES = rocker(), box(0, 30, -40, 40), ((), (1,))
    READINGS = Readings.of(rs(0, 1, 2), rs(10, -1, 3))
    FLOODS = ((0, ("port", 0)),)

    def fault(self, damage=(), floods=FLOODS, lot=(0,), cargo=point(20, 0), readings=READINGS):
        return filling_fault(self.SHIP, self.RULE, self.DAMAGES, readings, Filling(damage, floods, lot, cargo))

    def test_right_ones(self):
        self.assertIsNone(self.fault())
        self.assertIsNone(self.fault(floods=(), lot=()))
        self.assertIsNone(self.fault(damage=(1,), floods=(), lot=(1,), cargo=point(15, -10)))

    def test_filling(self):
        for thing in (None, 0, ((), (), (), point(20, 0)), Fit((), self.FLOODS, (0,), (), ()), "x"):
            self.same(filling_fault(self.SHIP, self.RULE, self.DAMAGES, self.READINGS, thing), "filling")

    def test_damage(self):
        for thing in ((0,), (0, 1), None, 0, "", (True,), (1.0,), ("1",), (1, 1)):
            self.same(self.fault(damage=thing), "damage")

    def test_cargo(self):
        for thing in (None, 0, (), (r(20),), point(20, 41), point(31, 0), point(-1, 0), (20, 0),
                      point(20, 0) + (r(1),)):
            self.same(self.fault(cargo=thing), "cargo")
        for thing in NO_RATIOS:
            self.same(self.fault(cargo=(thing, r(0))), "cargo")
            self.same(self.fault(cargo=(r(20), thing)), "cargo")

    def test_floods(self):
        for thing in (*NO_SEQUENCES, (None,), ((0,),), ((0, ("port", 1)),), ((0, ("port", False)),),
                      ((False, ("port", 0)),), ((1, ("bulkhead", 0)),), ((0, ("port", 0)), (0, ("port", 0)))):
            self.same(self.fault(floods=thing), "floods")
        # The cargo does not go through this row: the line is below the port.
        self.same(self.fault(cargo=point(19, 0)), "floods")
        self.same(self.fault(cargo=point(20, 1)), "floods")

    def test_lot(self):
        for thing in ((), (1,), (0, 1), None, 0, "0", (False,), (0.0,), (0, 0)):
            self.same(self.fault(lot=thing), "lot")

    def test_line(self):
        self.same(self.fault(readings=Readings.of(rs(0, 1, "11/10"))), "line")
        self.same(self.fault(readings=Readings.of(rs(0, 2, 3))), "line")
        self.same(self.fault(readings=Readings.of(rs(0, 1, 2), rs(10, 1, 3))), "line")
        # A ship that tips has no line.
        for lot, wanted in (((0, 1), "line"), ((), None)):
            got = filling_fault(tipping(2000), box(0, 9, -9, 9), (lot,), Readings.of(rs(0, -999, 999)),
                                Filling(lot, (), lot, point(3, 0)))
            self.same(got, wanted)

    def test_a_ship_may_have_been_wrong_on_the_way(self):
        ship, rule = one_hold(), Rule.at(point(55, 0))
        self.assertIsNone(filling_fault(ship, rule, ((0,),), Readings.of(rs(0, "11/2", 6)),
                                        Filling((0,), (), (0,), point(55, 0))))

    def test_the_first_word_where_two_faults_stand(self):
        self.same(self.fault(damage=None, floods=None, lot=None, cargo=None), "damage")
        self.same(self.fault(floods=None, lot=None, cargo=None), "cargo")
        self.same(self.fault(floods=None, lot=None), "floods")
        self.same(self.fault(lot=None, readings=Readings.of(rs(0, 9, 9))), "lot")


if __name__ == "__main__":
    unittest.main()
