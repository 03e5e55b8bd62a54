import unittest

from dryholds.errors import BadCargo, BadLot
from dryholds.ship import Ship
from dryholds.ways import Loss, Stopped, all_ways, count_ways, early_loss, play_way, way_of
from tests.helpers import NO_SEQUENCES, NO_WHOLES, Case, all_lots_of, four_holds, hold, point, r, three_holds
from tests.test_lots import NO_LOTS
from tests.test_lotsfrom import cases
from tests.test_postures import NO_CARGOES
from tests.walks import rocker, tipping, walk, wrong_names


def ways_by_walk(ship, damage, cargo):
    """A dict: for each lot that can come all ways to it, ascending."""
    found = {}
    for floods, lot in walk(ship, damage, cargo):
        found.setdefault(lot, set()).add(tuple(number for number, _ in floods))
    return {lot: sorted(ways) for lot, ways in found.items()}


def open_sea(many=4):
    """A ship about place 0 whose holds all have open ports: with (40, 0) every order of floods goes on."""
    first = -3 * many
    rows = [hold(first + at * 6, first + at * 6 + 6, 1, "1/2", 60) for at in range(many)]
    ports = [(at, r(first + at * 6 + 3), r(0)) for at in range(many)]
    return Ship(rows, [r(0)] * (many - 1), [(r(0), r(60))], (r(0), r(0)), [], ports)


class Results(Case):
    def test_stopped(self):
        self.same(vars(Stopped(index=3)), {"index": 3})
        self.assertTrue(Stopped(1) == Stopped(1))
        for other in (Stopped(2), 1, None, Loss(1, 1, 1)):
            self.assertFalse(Stopped(1) == other)

    def test_loss(self):
        loss = Loss(way=(1,), lot=(0, 1), wrong=("mark", 0))
        self.same(vars(loss), {"way": (1,), "lot": (0, 1), "wrong": ("mark", 0)})
        self.assertTrue(loss == Loss((1,), (0, 1), ("mark", 0)))
        for other in (Loss((0,), (0, 1), ("mark", 0)), Loss((1,), (1,), ("mark", 0)), Loss((1,), (0, 1), ("mark", 1)),
                      Stopped(0), None, ((1,), (0, 1), ("mark", 0))):
            self.assertFalse(loss == other)


class Ways(Case):
    def test_one_by_one(self):
        several = 0
        for ship, damage, cargo in cases(21, 12):
            wanted = ways_by_walk(ship, damage, cargo)
            for lot in all_lots_of(len(ship)):
                ways = wanted.get(lot, [])
                self.same(list(all_ways(ship, damage, cargo, lot)), ways)
                self.same(count_ways(ship, list(damage), list(cargo), list(lot)), len(ways))
                self.same(way_of(ship, damage, cargo, lot), ways[0] if ways else None)
                several += len(ways) > 1
                for way in ways:
                    self.play(ship, damage, cargo, way)
        self.assertGreater(several, 20)

    def play(self, ship, damage, cargo, way):
        lots = tuple(tuple(sorted(damage + way[:at])) for at in range(len(way) + 1))
        self.same(play_way(ship, damage, cargo, way), lots)
        self.same(play_way(ship, list(damage), list(cargo), list(way)), lots)

    def test_all_orders(self):
        ship, cargo = open_sea(), point(40, 0)
        self.same(count_ways(ship, (), cargo, (0, 1, 2, 3)), 24)
        self.same(count_ways(ship, (1,), cargo, (0, 1, 2, 3)), 6)
        self.same(list(all_ways(ship, (1,), cargo, (0, 1, 2))), [(0, 2), (2, 0)])
        self.same(way_of(ship, (3,), cargo, (0, 1, 2, 3)), (0, 1, 2))

    def test_the_damage_itself_and_what_cannot_come(self):
        ship, cargo = four_holds(), point(80, 0)
        self.same(list(all_ways(ship, (3,), cargo, (3,))), [()])
        self.same(count_ways(ship, (3,), cargo, [3]), 1)
        self.same(way_of(ship, (3,), cargo, (3,)), ())
        for lot in ((), (0,), (0, 3), (1, 2), (0, 1, 3)):
            self.same(list(all_ways(ship, (3,), cargo, lot)), [])
            self.same(count_ways(ship, (3,), cargo, lot), 0)
            self.assertIsNone(way_of(ship, (3,), cargo, lot))
        self.same(way_of(ship, (3,), cargo, (0, 1, 2, 3)), (2, 1, 0))

    def test_two_generators_keep_apart(self):
        ship, cargo = open_sea(), point(40, 0)
        one, other = all_ways(ship, (), cargo, (0, 1)), all_ways(ship, (), cargo, (1, 2))
        self.same([next(one), next(other), next(one), next(other)], [(0, 1), (1, 2), (1, 0), (2, 1)])
        for ways in (one, other):
            with self.assertRaises(StopIteration):
                next(ways)

    def test_stopping(self):
        ship, cargo = four_holds(), point(80, 0)
        for thing in NO_SEQUENCES:
            self.assertEqual(play_way(ship, (3,), cargo, thing), Stopped(0))
        for thing in (*NO_WHOLES, -1, 4, 3, 0, 1, [2], (2,), [], {}, set(), "2", 2.0):
            self.assertEqual(play_way(ship, (3,), cargo, (thing, 1)), Stopped(0))
        for thing in (*NO_WHOLES, 3, 2, 0, [1], -1, 4):
            self.assertEqual(play_way(ship, (3,), cargo, [2, thing]), Stopped(1))
        self.assertEqual(play_way(ship, (3,), cargo, (2, 1, 0, 0)), Stopped(3))
        self.same(type(play_way(ship, (3,), cargo, (1,)).index), int)
        self.assertEqual(play_way(ship, (0, 1, 2, 3), cargo, (0,)), Stopped(0))
        self.assertEqual(play_way(tipping(2000), (0, 1), point(1000, 0), (2,)), Stopped(0))
        # True is no hold, even where hold 1 can flood.
        self.assertEqual(play_way(rocker(), (), point(20, 0), (True,)), Stopped(0))
        self.assertEqual(play_way(rocker(), (), point(20, 0), (False,)), Stopped(0))
        self.same(play_way(rocker(), (), point(20, 0), (1,)), ((), (1,)))


class EarlyLoss(Case):
    def test_by_every_way(self):
        lost = later = 0
        for ship, damage, cargo in cases(22, 40):
            found = sorted((len(way), way, lot) for lot, ways in ways_by_walk(ship, damage, cargo).items()
                           for way in ways if wrong_names(ship, lot, cargo))
            loss = early_loss(ship, list(damage), list(cargo))
            if not found:
                self.assertIsNone(loss)
                continue
            _, way, lot = found[0]
            self.same(vars(loss), {"way": way, "lot": lot, "wrong": wrong_names(ship, lot, cargo)[0]})
            lost += 1
            later += len(way) > 0
        self.assertGreater(lost, 100)
        self.assertGreater(later, 15)

    def test_the_example_of_part_9(self):
        self.assertEqual(early_loss(four_holds(), (3,), point(80, 0)), Loss((2,), (2, 3), ("mark", 1)))
        self.assertIsNone(early_loss(four_holds(), (0, 3), point(80, 0)))

    def test_a_lot_that_tips(self):
        self.assertEqual(early_loss(tipping(2000), [0, 1], point(0, 0)), Loss((), (0, 1), ("tips",)))


class Errors(Case):
    def test_in_their_order(self):
        ship = three_holds()
        for thing in NO_LOTS:
            self.refused(BadLot, {}, play_way, ship, thing, None, None)
            self.refused(BadLot, {}, early_loss, ship, thing, None)
            for call in (way_of, count_ways, lambda *things: list(all_ways(*things))):
                self.refused(BadLot, {}, call, ship, thing, None, None)
                self.refused(BadLot, {}, call, ship, (0,), None, thing)
        for what, thing in NO_CARGOES:
            self.refused(BadCargo, {"what": what}, play_way, ship, (0,), thing, None)
            self.refused(BadCargo, {"what": what}, early_loss, ship, (0,), thing)
            for call in (way_of, count_ways, lambda *things: list(all_ways(*things))):
                self.refused(BadCargo, {"what": what}, call, ship, (0,), thing, (1,))


if __name__ == "__main__":
    unittest.main()
