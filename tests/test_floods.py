import unittest
from fractions import Fraction

from dryholds.errors import BadCargo, BadHold, BadLot
from dryholds.floods import can_flood, floods_at, goes_over, open_edges
from dryholds.halfplanes import HalfPlane
from dryholds.postures import Posture, cargo_of, line_row
from tests.helpers import NO_WHOLES, Case, all_lots_of, f, half, one_hold, point, r, rs, three_holds
from tests.test_lots import NO_LOTS
from tests.test_postures import NO_CARGOES
from tests.walks import LARGE, SHIPS, edges_into, floods_now, height, sieve, some_cargoes, some_ships, tipping, tips
from tests.walks import two_holds

LITTLE = Fraction(1, 1000)


def told(rows):
    """All that tells pairs of a name and a half-plane."""
    return [(name, one.p, one.q, one.r, one.strict) for name, one in rows]


def with_line(ship, lot, place, bound, slope=0):
    """The cargo whose line stands at this height over a place."""
    return cargo_of(ship, lot, Posture(r(bound - slope * place), r(slope)))


class GoesOver(Case):
    def test_a_bulkhead_by_hand(self):
        # P = 15, Q = -25, R = 500 with hold 1 flooded: at place 0 the line stands at (500 w + 25 m) / 6875.
        self.assertEqual(goes_over(two_holds(), (1,), 0), ((("bulkhead", 0), half("4/55", "1/275", 3)),))
        self.same(told(goes_over(two_holds(), [1], 0)), [(("bulkhead", 0), *rs("4/55", "1/275", 3), False)])

    def test_own_weight_stands_in_the_bound(self):
        ship = two_holds(own=(11, 55))
        # 11 * 4/55 + 55/275 = 1
        self.same(told(goes_over(ship, (1,), 0)), [(("bulkhead", 0), *rs("4/55", "1/275", 2), False)])

    def test_both_bulkheads_come_first_then_ports_ascending(self):
        ship = sieve()
        self.same([edge for edge, _ in goes_over(ship, (0, 2), 1)],
                  [("bulkhead", 0), ("bulkhead", 1), ("port", 0), ("port", 2), ("port", 3)])
        self.same([edge for edge, _ in goes_over(ship, (2,), 1)],
                  [("bulkhead", 1), ("port", 0), ("port", 2), ("port", 3)])
        self.same([edge for edge, _ in goes_over(ship, (), 1)], [("port", 0), ("port", 2), ("port", 3)])
        self.same([edge for edge, _ in goes_over(ship, (0,), 2)], [("port", 1)])
        self.same(goes_over(ship, (2,), 0), ())

    def test_the_lowest_of_several_doors_counts(self):
        ship = sieve()
        p, q, rest = line_row(ship, (0,), r(-2))
        self.same(told(goes_over(ship, (0,), 1))[0], (("bulkhead", 0), p, q, r(Fraction(3, 2) - f(rest)), False))

    def test_every_hold_at_every_lot(self):
        for ship in SHIPS + LARGE + tuple(some_ships(1, 12)):
            for lot in all_lots_of(len(ship)):
                for number in range(len(ship)):
                    wanted = []
                    for edge, place, bound in edges_into(ship, lot, number):
                        p, q, rest = line_row(ship, lot, r(place))
                        wanted.append((edge, p, q, r(bound - f(rest)), False))
                    self.same(told(goes_over(ship, lot, number)), wanted)
                    self.same(told(goes_over(ship, list(lot), number)), wanted)

    def test_nothing_goes_into_a_flooded_hold_or_at_a_lot_that_tips(self):
        for number in (0, 1):
            self.same(goes_over(sieve(), (0, 1), number), ())
        self.assertTrue(tips(tipping(), (0, 1, 2)) and not tips(tipping(2000), ()))
        self.same(goes_over(tipping(2000), (0, 1), 2), ())

    def test_all_floods_of_a_lot(self):
        ship = sieve()
        self.same([flood[:2] for flood in floods_at(ship, (0,))],
                  [(1, ("bulkhead", 0)), (1, ("port", 0)), (1, ("port", 2)), (1, ("port", 3)), (2, ("port", 1))])

    def test_errors(self):
        for thing in NO_LOTS:
            self.refused(BadLot, {}, goes_over, three_holds(), thing, 0)
            self.refused(BadLot, {}, goes_over, three_holds(), thing, None)
        for thing in (*NO_WHOLES, -1, 3):
            self.refused(BadHold, {"hold": thing}, goes_over, three_holds(), (0,), thing)
        self.refused(BadHold, {"hold": 3}, goes_over, tipping(2000), (0, 1, 2), 3)


class CanFlood(Case):
    def test_by_every_height(self):
        for at, ship in enumerate(SHIPS + LARGE + tuple(some_ships(2, 15))):
            for lot in all_lots_of(len(ship)):
                for cargo in some_cargoes(ship, at, 4):
                    floods = floods_now(ship, lot, cargo)
                    self.same(can_flood(ship, lot, cargo), tuple(sorted({number for number, _ in floods})))
                    for number in range(len(ship)):
                        wanted = tuple(edge for beside, edge in floods if beside == number)
                        self.same(open_edges(ship, lot, list(cargo), number), wanted)

    def test_touching_an_edge_and_a_little_off(self):
        touched = 0
        for ship in SHIPS + tuple(some_ships(3, 20)):
            for lot in all_lots_of(len(ship)):
                for number in range(len(ship)):
                    for edge, place, bound in edges_into(ship, lot, number):
                        for slope in (0, Fraction(1, 7), Fraction(-1, 9)):
                            touched += self.touch(ship, lot, number, edge, place, bound, slope)
        self.assertGreater(touched, 300)

    def touch(self, ship, lot, number, edge, place, bound, slope):
        above, at, below = [with_line(ship, lot, place, bound + by, slope) for by in (LITTLE, 0, -LITTLE)]
        if f(above[0]) < 0 or f(at[0]) < 0 or f(below[0]) < 0:
            return 0
        self.assertEqual(height(ship, lot, at, place), bound)
        self.assertIn(edge, open_edges(ship, lot, above, number))
        self.assertIn(edge, open_edges(ship, lot, at, number))
        self.assertNotIn(edge, open_edges(ship, lot, below, number))
        self.assertIn(number, can_flood(ship, lot, at))
        return 1

    def test_a_lot_that_tips_is_an_end(self):
        self.same(can_flood(tipping(2000), (0, 1), point(1000, 0)), ())
        self.same(open_edges(tipping(2000), (0, 1), point(1000, 0), 2), ())

    def test_ship_of_one_hold(self):
        self.same(can_flood(one_hold(), (), point(60, 0)), ())
        self.same(can_flood(one_hold(), (0,), point(60, 0)), ())

    def test_errors_in_their_order(self):
        ship = three_holds()
        for thing in NO_LOTS:
            self.refused(BadLot, {}, can_flood, ship, thing, None)
            self.refused(BadLot, {}, open_edges, ship, thing, None, None)
        for what, thing in NO_CARGOES:
            self.refused(BadCargo, {"what": what}, can_flood, ship, (0,), thing)
            self.refused(BadCargo, {"what": what}, open_edges, ship, (0,), thing, 9)
        for thing in (*NO_WHOLES, -1, 3):
            self.refused(BadHold, {"hold": thing}, open_edges, ship, (0,), point(1, 0), thing)

    def test_half_planes_are_objects_of_their_class(self):
        self.assertIs(type(goes_over(two_holds(), (1,), 0)[0][1]), HalfPlane)


if __name__ == "__main__":
    unittest.main()
