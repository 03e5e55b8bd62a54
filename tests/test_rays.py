import unittest
from fractions import Fraction

from dryholds.errors import BadCargo, BadFactor, BadLot
from dryholds.lotsfrom import is_lost, lots_from
from dryholds.postures import Tips, height_at, posture_of
from dryholds.rays import Bearing, bearing_of, cargo_at, deepening_of, least_factors, load_of
from dryholds.ship import Ship
from tests.helpers import NO_RATIOS, Case, all_lots_of, f, four_holds, hold, one_hold, point, r, three_holds
from tests.test_lots import NO_LOTS
from tests.test_lotsfrom import cases
from tests.test_postures import NO_CARGOES
from tests.walks import SHIPS, edges_into, height, lots_by_walk, rocker, some_cargoes, some_ships, tipping, tips
from tests.walks import two_holds, walk, wrong_ends, wrong_names

CLOSE = Fraction(1, 10 ** 6)


def taken(ship, cargo, factor):
    """The cargo whose load is so many times as great, by sums of fractions."""
    own = [f(number) for number in ship.own]
    return tuple(r(factor * (f(number) + more) - more) for number, more in zip(cargo, own))


def turns(ship, cargo):
    """All factors above 0 at which the line comes to some edge, mark, deck or to the keel at some lot."""
    found = set()
    for lot in all_lots_of(len(ship)):
        if not tips(ship, lot):
            ends = [(place, bound) for _, place, bound, _ in wrong_ends(ship, lot)]
            edges = [edge[1:] for number in range(len(ship)) for edge in edges_into(ship, lot, number)]
            for place, bound in ends + edges:
                line = height(ship, lot, cargo, place)
                if line * bound > 0:
                    found.add(bound / line)
    return sorted(found)


def samples(factors):
    """Each factor, and one between each two and beyond both ends; ascending."""
    stops = [Fraction(0), *factors]
    got = [(one + other) / 2 for one, other in zip(stops, stops[1:])] + list(factors) + [stops[-1] + 1]
    return sorted(got)


class Loads(Case):
    def test_load(self):
        self.same(load_of(three_holds(), point(5, "1/3")), point("17/2", -1))
        self.same(load_of(one_hold(), [r(5), r(2)]), point(5, 2))

    def test_cargo_at_a_factor(self):
        ship = three_holds()
        self.same(cargo_at(ship, point(5, "1/3"), r(2)), point("27/2", "-2/3"))
        self.same(cargo_at(ship, [r(5), r("1/3")], r(1)), point(5, "1/3"))
        self.same(cargo_at(ship, point(5, "1/3"), r(0)), point("-7/2", "4/3"))
        self.same(cargo_at(ship, point(5, "1/3"), r("1/4")), point("-11/8", "13/12"))
        for factor in (0, "1/9", 1, "13/4", 100):
            self.same(load_of_any(ship, cargo_at(ship, point(5, "1/3"), r(factor))),
                      (f(r(factor)) * Fraction(17, 2), -f(r(factor))))

    def test_errors(self):
        for what, thing in NO_CARGOES:
            self.refused(BadCargo, {"what": what}, load_of, one_hold(), thing)
            self.refused(BadCargo, {"what": what}, cargo_at, one_hold(), thing, None)
        for thing in (*NO_RATIOS, r(-1), r("-1/1000")):
            self.refused(BadFactor, {"factor": thing}, cargo_at, one_hold(), point(1, 0), thing)


def load_of_any(ship, couple):
    return tuple(f(number) + f(more) for number, more in zip(couple, ship.own))


class Deepening(Case):
    def test_by_the_line(self):
        for at, ship in enumerate(SHIPS):
            for lot in all_lots_of(len(ship)):
                for cargo in some_cargoes(ship, at, 5):
                    got = deepening_of(ship, list(lot), list(cargo))
                    if tips(ship, lot):
                        self.assertEqual(got, Tips())
                        continue
                    weight, moment = load_of_any(ship, cargo)
                    line = posture_of(ship, lot, cargo)
                    self.same(got, r(weight * f(line.s) + moment * f(line.t)))
                    if weight > 0:
                        self.same(got, r(weight * f(height_at(line, r(moment / weight)))))

    def test_never_less_with_more_holds(self):
        for at, ship in enumerate(SHIPS + tuple(some_ships(41, 15))):
            lots = [lot for lot in all_lots_of(len(ship)) if not tips(ship, lot)]
            for cargo in some_cargoes(ship, at, 3):
                deep = {lot: f(deepening_of(ship, lot, cargo)) for lot in lots}
                for one in lots:
                    for other in lots:
                        if set(one) < set(other):
                            more = any(f(ship.holds[number][3]) < 1 for number in set(other) - set(one))
                            above = more and load_of_any(ship, cargo) != (0, 0)
                            self.same((deep[other] > deep[one], deep[other] == deep[one]), (above, not above))

    def test_errors(self):
        for thing in NO_LOTS:
            self.refused(BadLot, {}, deepening_of, three_holds(), thing, None)
        for what, thing in NO_CARGOES:
            self.refused(BadCargo, {"what": what}, deepening_of, three_holds(), (0,), thing)
            self.refused(BadCargo, {"what": what}, deepening_of, tipping(2000), (0, 1, 2), thing)


class Monotone(Case):
    def test_what_can_come_with_a_load_comes_with_a_greater_one(self):
        for ship, damage, cargo in cases(42, 12, 3):
            for factor in (1, "9/8", 2, 7):
                more = cargo_at(ship, cargo, r(factor))
                self.assertLessEqual(set(lots_from(ship, damage, cargo)), set(lots_from(ship, damage, more)))
                self.assertLessEqual(is_lost(ship, damage, cargo), is_lost(ship, damage, more))


class LeastFactors(Case):
    def test_by_every_turn(self):
        for ship, damage, cargo in list(cases(43, 10, 3))[::2]:
            wanted = {}
            tried = samples(turns(ship, cargo))
            for factor in tried:
                for lot in lots_by_walk(ship, damage, taken(ship, cargo, factor)):
                    wanted.setdefault(lot, factor)
            # A lot that comes with the first sample comes with every factor above 0.
            rows = [(lot, r(0 if factor == tried[0] else factor)) for lot, factor in wanted.items()]
            rows = tuple(sorted(rows, key=lambda row: (len(row[0]), row[0])))
            self.same(least_factors(ship, list(damage), list(cargo)), rows)

    def test_by_hand(self):
        # With hold 3 gone the line over the place 10 stands at 1888/673 for the weight 80.
        ship = four_holds()
        self.same(least_factors(ship, (3,), point(80, 0))[:2],
                  (((3,), r(0)), ((2, 3), r(Fraction(27, 10) / Fraction(1888, 673)))))
        self.same(least_factors(ship, (), point(80, 0)), (((), r(0)),))
        self.same(least_factors(rocker(), (), point(20, 0)),
                  (((), r(0)), ((0,), r(1)), ((1,), r(1)), ((0, 1), r("11/8"))))
        self.same(least_factors(tipping(2000), (0, 1), point(9, 1)), (((0, 1), r(0)),))

    def test_no_load_and_edges_at_the_keel(self):
        rows = [hold(-5, 0), hold(0, 5)]
        ship = Ship(rows, [r(0)], [(r(0), r(0))], (r(0), r(0)), [], [(1, r(2), r(0))])
        self.same(least_factors(ship, (), point(0, 0)), (((), r(0)), ((1,), r(0)), ((0, 1), r(0))))
        self.same(least_factors(ship, (), point(7, 0)), (((), r(0)), ((1,), r(0)), ((0, 1), r(0))))
        self.same(least_factors(two_holds(), (0,), point(0, 0)), (((0,), r(0)),))
        # The line falls towards the port: it never comes to it.
        self.same(least_factors(ship, (), point(1, -20)), (((), r(0)),))

    def test_the_order_of_lots(self):
        # Hold 3 does not flood behind (0, 2) before (1, 2) does, yet (0, 2, 3) stands ahead of (1, 2, 3).
        rows = [hold(-9, -2, 3, 0, 7), hold(-2, 0, 1, "1/4", 5), hold(0, 2, 1, 0, 9), hold(2, 4, 3, 1, 6)]
        ship = Ship(rows, [r("7/2"), r("1/2"), r(1)], [(r(3), r(9))], (r(3), r(0)), [], [(0, r(-4), r(2))], r(200))
        self.same([lot for lot, _ in least_factors(ship, (2,), point(0, 0))],
                  [(2,), (0, 2), (1, 2), (2, 3), (0, 1, 2), (0, 2, 3), (1, 2, 3), (0, 1, 2, 3)])

    def test_asked_again_at_each_factor(self):
        for ship, damage, cargo in cases(44, 10, 3):
            for lot, factor in least_factors(ship, damage, cargo):
                for by in (f(factor) + CLOSE, f(factor), f(factor) - CLOSE):
                    if by > 0 and f(taken(ship, cargo, by)[0]) >= 0:
                        comes = lot in lots_from(ship, damage, taken(ship, cargo, by))
                        self.same(comes, by >= f(factor))


class Bearings(Case):
    def test_class(self):
        self.same(vars(Bearing(factor=r(2), reached=True)), {"factor": (2, 1), "reached": True})
        self.assertTrue(Bearing(r(2), True) == Bearing(r(2), True))
        for other in (Bearing(r(2), False), Bearing(r(3), True), None, (r(2), True), Tips()):
            self.assertFalse(Bearing(r(2), True) == other)

    def test_by_every_turn(self):
        kinds = {}
        for ship, damage, cargo in list(cases(45, 25, 3))[::5]:
            tried = samples(turns(ship, cargo))
            lost = [factor for factor in tried if any(
                wrong_names(ship, lot, taken(ship, cargo, factor))
                for _, lot in walk(ship, damage, taken(ship, cargo, factor)))]
            got = bearing_of(ship, list(damage), list(cargo))
            if not lost:
                self.assertIsNone(got)
                kinds["never"] = True
            elif lost[0] == tried[0]:
                self.same(vars(got), {"factor": r(0), "reached": False})
                kinds["always"] = True
            else:
                # Samples and turns follow one another: what is lost first at a sample is lost right above a turn.
                turn = lost[0] in turns(ship, cargo)
                before = lost[0] if turn else tried[tried.index(lost[0]) - 1]
                self.same(vars(got), {"factor": r(before), "reached": turn})
                kinds["reached" if turn else "above"] = True
        self.assertEqual(set(kinds), {"never", "always", "reached", "above"})

    def test_by_hand(self):
        ship = four_holds()
        self.assertEqual(bearing_of(ship, (3,), point(80, 0)), Bearing((18171, 18880), True))
        self.assertEqual(bearing_of(ship, (0, 1, 3), point(80, 0)), Bearing(r("39/40"), False))
        self.assertIsNone(bearing_of(two_holds(), (), point(0, 0)))
        self.assertEqual(bearing_of(two_holds(), (), point(0, 1)), Bearing(r(0), False))
        self.assertEqual(bearing_of(two_holds(), (), point(50, 0)), Bearing(r(2), False))
        self.assertEqual(bearing_of(tipping(2000), (0, 1), point(0, 0)), Bearing(r(0), False))
        # With hold 0 gone the line is level at 1/2, the top of the bulkhead stands at 1, and two holds tip her.
        self.same(tips(tipping(1560), (0,)), False)
        self.same(tips(tipping(1560), (0, 1)), True)
        self.assertEqual(bearing_of(tipping(1560), (0,), point("25/2", 25)), Bearing(r(2), True))

    def test_a_mark_at_the_keel(self):
        ship = Ship([hold(-5, 5)], [], [(r(0), r(0))], (r(0), r(0)))
        self.assertEqual(bearing_of(ship, (), point(3, 0)), Bearing(r(0), False))
        self.assertIsNone(bearing_of(ship, (), point(0, 0)))

    def test_asked_again_of_is_lost(self):
        asked = 0
        for ship, damage, cargo in cases(46, 20, 4):
            got = bearing_of(ship, damage, cargo)
            for by in (1, 50) if got is None else (f(got.factor) + CLOSE, f(got.factor), f(got.factor) - CLOSE):
                if by > 0 and f(taken(ship, cargo, by)[0]) >= 0:
                    lost = got is not None and (by > f(got.factor) or by == f(got.factor) and got.reached)
                    self.same(is_lost(ship, damage, taken(ship, cargo, by)), lost)
                    asked += 1
        self.assertGreater(asked, 500)


class Errors(Case):
    def test_in_their_order(self):
        for call in (least_factors, bearing_of):
            for thing in NO_LOTS:
                self.refused(BadLot, {}, call, three_holds(), thing, None)
            for what, thing in NO_CARGOES:
                self.refused(BadCargo, {"what": what}, call, three_holds(), (0,), thing)


if __name__ == "__main__":
    unittest.main()
