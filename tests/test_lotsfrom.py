import unittest

from dryholds.errors import BadCargo, BadLot
from dryholds.lotsfrom import ends_from, has_one_end, is_lost, lots_from, may_flood, must_flood, settle
from dryholds.ship import Ship
from tests.helpers import Case, all_lots_of, four_holds, hold, one_hold, point, r, six_holds, three_holds
from tests.test_lots import NO_LOTS
from tests.test_postures import NO_CARGOES
from tests.walks import SHIPS, ends_by_walk, floods_now, lots_by_walk, rocker, some_cargoes, some_ships
from tests.walks import tipping, wrong_names

ALL = (lots_from, ends_from, has_one_end, must_flood, may_flood, settle, is_lost)


def cases(seed, many, cargoes=5):
    """Ships, damages and cargoes, many of them with long or forked floods."""
    for at, ship in enumerate(SHIPS + tuple(some_ships(seed, many))):
        for cargo in some_cargoes(ship, seed + at, cargoes):
            for damage in all_lots_of(len(ship)):
                if len(damage) < 3:
                    yield ship, damage, cargo


class ByWalk(Case):
    def test_lots_and_ends(self):
        forked = long = 0
        for ship, damage, cargo in cases(11, 30):
            lots = lots_by_walk(ship, damage, cargo)
            ends = ends_by_walk(ship, damage, cargo)
            self.same(lots_from(ship, damage, cargo), lots)
            self.same(lots_from(ship, list(damage), list(cargo)), lots)
            self.same(ends_from(ship, damage, cargo), ends)
            self.same(has_one_end(ship, damage, cargo), len(ends) == 1)
            held = [set(end) for end in ends]
            self.same(must_flood(ship, damage, cargo), tuple(sorted(set.intersection(*held))))
            self.same(may_flood(ship, damage, cargo), tuple(sorted(set().union(*lots))))
            self.same(is_lost(ship, damage, cargo), any(wrong_names(ship, lot, cargo) for lot in lots))
            forked += len(ends) > 1
            long += len(lots) > 3
        self.assertGreater(forked, 3)
        self.assertGreater(long, 30)

    def test_settling(self):
        for ship, damage, cargo in cases(12, 15):
            lots = [damage]
            while floods_now(ship, lots[-1], cargo):
                lots.append(tuple(sorted((*lots[-1], floods_now(ship, lots[-1], cargo)[0][0]))))
            self.same(settle(ship, damage, cargo), tuple(lots))
            self.same(settle(ship, list(damage), list(cargo)), tuple(lots))
            self.assertIn(lots[-1], ends_from(ship, damage, cargo))


class ByHand(Case):
    def test_the_example_of_part_9(self):
        ship, cargo = four_holds(), point(80, 0)
        self.same(lots_from(ship, (3,), cargo), ((3,), (2, 3), (1, 2, 3), (0, 1, 2, 3)))
        self.same(ends_from(ship, (3,), cargo), ((0, 1, 2, 3),))
        self.same(is_lost(ship, (3,), cargo), True)
        self.same(lots_from(ship, (0, 3), cargo), ((0, 3),))
        self.same(is_lost(ship, (0, 3), cargo), False)
        self.same(lots_from(ship, (0, 1, 3), cargo), ((0, 1, 3), (0, 1, 2, 3)))
        self.same(is_lost(ship, (0, 1, 3), cargo), True)

    def test_two_ends(self):
        # Dry, the line stands at w / 20; with hold 1 flooded at 2 w / 55 over place -10, at 6 w / 55 over place 10.
        ship = rocker()
        for weight in (20, 27):
            self.same(lots_from(ship, (), point(weight, 0)), ((), (0,), (1,)))
            self.same(ends_from(ship, [], point(weight, 0)), ((0,), (1,)))
            self.same(has_one_end(ship, (), point(weight, 0)), False)
            self.same(must_flood(ship, (), point(weight, 0)), ())
            self.same(may_flood(ship, (), point(weight, 0)), (0, 1))
            self.same(settle(ship, (), point(weight, 0)), ((), (0,)))
        self.same(ends_from(ship, (), point("199/10", 0)), ((),))
        self.same(ends_from(ship, (), point("55/2", 0)), ((0, 1),))
        self.same(must_flood(ship, (), point("55/2", 0)), (0, 1))

    def test_a_wrong_lot_that_is_no_end_loses(self):
        # With hold 1 flooded the line stands at 6 w / 55 over the mark, with both at w / 10.
        rows = [hold(-10, 0, 1, "1/2", 50), hold(0, 10, 1, "1/2", 50)]
        ship = Ship(rows, [r(1)], [(r(10), r("21/5"))], (r(0), r(0)))
        self.same(lots_from(ship, (1,), point(40, 0)), ((1,), (0, 1)))
        self.same(is_lost(ship, (1,), point(40, 0)), True)
        self.same(is_lost(ship, (0, 1), point(40, 0)), False)
        self.same(is_lost(ship, (1,), point("77/2", 0)), False)

    def test_holds_told_count_the_damage(self):
        self.same(must_flood(one_hold(), (0,), point(1, 0)), (0,))
        self.same(may_flood(one_hold(), (0,), point(1, 0)), (0,))
        self.same(must_flood(one_hold(), (), point(1, 0)), ())
        self.same(may_flood(four_holds(), (0, 3), point(80, 0)), (0, 3))

    def test_no_load_at_all(self):
        # The line lies at 0 everywhere, and a sill at 0 lets water in.
        ship = Ship([hold(-5, 0), hold(0, 5)], [r(0)], [(r(0), r(0))], (r(0), r(0)), [], [(1, r(2), r(0))])
        self.same(lots_from(ship, (), point(0, 0)), ((), (1,), (0, 1)))
        self.same(settle(ship, (), point(0, 0)), ((), (1,), (0, 1)))
        self.same(is_lost(ship, (), point(0, 0)), False)
        self.same(is_lost(ship, (), point("1/9", 0)), True)

    def test_lots_that_tip_are_ends(self):
        ship, cargo = tipping(2000), point(300, 0)
        self.same(ends_from(ship, (0, 1), cargo), ((0, 1),))
        self.same(is_lost(ship, (0, 1), point(0, 0)), True)
        self.same(settle(ship, (0, 1), cargo), ((0, 1),))
        for lot in ends_from(ship, (0,), cargo):
            self.same(wrong_names(ship, lot, cargo)[:1], [("tips",)])

    def test_six_holds(self):
        ship, cargo = six_holds(), point(300, 0)
        self.same(lots_from(ship, (2,), cargo), lots_by_walk(ship, (2,), cargo))


class Errors(Case):
    def test_in_their_order(self):
        for call in ALL:
            for thing in NO_LOTS:
                self.refused(BadLot, {}, call, three_holds(), thing, None)
            for what, thing in NO_CARGOES:
                self.refused(BadCargo, {"what": what}, call, three_holds(), (0,), thing)


if __name__ == "__main__":
    unittest.main()
