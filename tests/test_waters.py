import unittest
from fractions import Fraction

from dryholds.errors import BadHold, BadLot
from dryholds.lifts import lift_of
from dryholds.postures import Posture, cargo_of, does_tip, height_at, posture_of
from dryholds.ship import Ship
from dryholds.waters import push_of, water_of, waters_of
from tests.helpers import NO_WHOLES, Case, all_lots_of, f, four_holds, hold, one_hold, point, r, six_holds, three_holds
from tests.test_lots import NO_LOTS

SHIPS = (one_hold(), three_holds(), four_holds(), six_holds())
LINES = tuple(Posture(r(s), r(t)) for s, t in ((0, 0), (3, 0), ("5/2", "-1/3"), (-4, 2)))


def pushed(row, kept, posture):
    """The push and moment of one hold by the formula."""
    start, to, breadth = row[:3]
    s, t = f(posture.s), f(posture.t)
    lengths = [Fraction(to ** power - start ** power, power) for power in (1, 2, 3)]
    return (r(kept * breadth * (lengths[0] * s + lengths[1] * t)),
            r(kept * breadth * (lengths[1] * s + lengths[2] * t)))


class Pushes(Case):
    def test_by_the_formula(self):
        for ship in SHIPS:
            for lot in all_lots_of(len(ship)):
                for at, row in enumerate(ship.holds):
                    for posture in LINES:
                        kept = f(row[3]) if at in lot else Fraction(1)
                        self.same(push_of(ship, list(lot), posture, at), pushed(row, kept, posture))

    def test_examples(self):
        self.same(push_of(one_hold(), (), Posture(r(2), r("1/10")), 0), (r(40), r("200/3")))
        self.same(push_of(one_hold(), (0,), Posture(r(2), r("1/10")), 0), (r(20), r("100/3")))
        self.same(push_of(four_holds(), (), Posture(r(-1), r(0)), 3), (r(-10), r(-150)))

    def test_pushes_add_up_to_the_load(self):
        for ship in SHIPS:
            for lot in all_lots_of(len(ship)):
                if does_tip(ship, lot):
                    continue
                posture = posture_of(ship, lot, point(5, -3))
                pushes = [push_of(ship, lot, posture, at) for at in range(len(ship))]
                self.assertEqual(sum(f(push) for push, _ in pushes), f(ship.own[0]) + 5)
                self.assertEqual(sum(f(turn) for _, turn in pushes),
                                 f(ship.own[1]) - 3 + f(ship.slack) * f(posture.t))

    def test_errors_in_their_order(self):
        for thing in NO_LOTS:
            self.refused(BadLot, {}, push_of, three_holds(), thing, LINES[0], None)
            self.refused(BadLot, {}, waters_of, three_holds(), thing, LINES[0])
        for thing in (3, -1, r(1), *NO_WHOLES):
            self.refused(BadHold, {"hold": thing}, push_of, three_holds(), (1,), LINES[0], thing)
            self.refused(BadHold, {"hold": thing}, water_of, three_holds(), LINES[0], thing)


class Waters(Case):
    def test_by_the_formula(self):
        for ship in SHIPS:
            for at, row in enumerate(ship.holds):
                for posture in LINES:
                    self.same(water_of(ship, posture, at), pushed(row, 1 - f(row[3]), posture))

    def test_sums_over_the_lot(self):
        for ship in SHIPS:
            for lot in all_lots_of(len(ship)):
                for posture in LINES:
                    waters = [water_of(ship, posture, at) for at in lot]
                    wanted = (r(sum(f(one) for one, _ in waters)), r(sum(f(turn) for _, turn in waters)))
                    self.same(waters_of(ship, list(lot), posture), wanted)

    def test_water_stands_as_more_cargo(self):
        for ship in SHIPS:
            for lot in all_lots_of(len(ship)):
                for posture in LINES:
                    cargo, water = cargo_of(ship, lot, posture), waters_of(ship, lot, posture)
                    self.same(cargo_of(ship, (), posture),
                              (r(f(cargo[0]) + f(water[0])), r(f(cargo[1]) + f(water[1]))))

    def test_full_shares_change_no_posture(self):
        rows = [hold(0, 3, 2, 1), hold(3, 5, 1, "1/2"), hold(5, 9, 3, 1)]
        ship = Ship(rows, [r(1), r(1)], [(r(0), r(1))], (r(1), r(0)))
        for lot in ((0,), (2,), (0, 2)):
            self.assertEqual(posture_of(ship, lot, point(3, 8)), posture_of(ship, (), point(3, 8)))
            self.same(waters_of(ship, lot, LINES[2]), (r(0), r(0)))
        self.assertNotEqual(posture_of(ship, (1,), point(3, 8)), posture_of(ship, (), point(3, 8)))


class OneMoreHold(Case):
    """[2.13]: what one more flooded hold does."""

    def steps(self):
        for ship in SHIPS:
            for lot in all_lots_of(len(ship)):
                for at in range(len(ship)):
                    more = tuple(sorted((*lot, at)))
                    if at not in lot and not does_tip(ship, more):
                        yield ship, lot, at, more

    def test_lifts_never_fall(self):
        for ship, lot, at, more in self.steps():
            for place in (r(-9), r("1/2"), r(20)):
                before, after = f(lift_of(ship, lot, place, place)), f(lift_of(ship, more, place, place))
                self.assertGreaterEqual(after, before)
                self.assertIs(after > before, ship.holds[at][3] != (1, 1))

    def test_lines_change_with_shares_and_loads(self):
        empty = Ship([hold(-3, 0, 1, "1/2"), hold(0, 4, 1, 1)], [r(1)], [(r(0), r(1))], (r(0), r(0)))
        self.assertEqual(posture_of(empty, (0,), point(0, 0)), posture_of(empty, (), point(0, 0)))
        for ship, lot, at, more in self.steps():
            for cargo in (point(3, 1), point(40, -9)):
                before, after = posture_of(ship, lot, cargo), posture_of(ship, more, cargo)
                self.assertIs(before == after, ship.holds[at][3] == (1, 1))
                ends = [r(place) for place in ship.holds[at][:2]]
                if before != after and all(height_at(after, place)[0] >= 0 for place in ends):
                    self.assertTrue(any(f(height_at(after, place)) > f(height_at(before, place)) for place in ends))


if __name__ == "__main__":
    unittest.main()
