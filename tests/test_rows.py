import unittest
from fractions import Fraction

from dryholds.damages import check_damages
from dryholds.errors import BadFloods, BadLot, TooMany
from dryholds.floods import goes_over
from dryholds.polygons import covers_cargo, polygon_of
from dryholds.rows import FloodRow, counted_rows, flood_rows, row_along, rows_onward
from dryholds.rules import Rule
from tests.helpers import NO_SEQUENCES, NO_WHOLES, Case, all_lots_of, four_holds, half, have_common, one_hold, point
from tests.helpers import points, r, three_holds
from tests.test_lots import NO_LOTS
from tests.walks import SHIPS, box, corners_and_more, edges_into, rocker, sieve, some_ships, tipping, two_holds, walk

LINE = Rule([half(-1, 0, -80), half(0, 1, 0), half(0, -1, 0)])


def all_orders(ship, damage):
    """All rows of floods of a damage, whatever the cargo, in their order, with their lots."""
    rows = [((), damage)]
    for floods, lot in rows:
        for number in range(len(ship)):
            for edge, _, _ in edges_into(ship, lot, number):
                rows.append((floods + ((number, edge),), tuple(sorted((*lot, number)))))
    return rows


def halves_along(ship, rule, damage, floods):
    """The half-planes of a row: the rule's, and one for each flood."""
    halves, lot = list(rule.halves), damage
    for number, edge in floods:
        halves += [one for told, one in goes_over(ship, lot, number) if told == edge]
        lot = tuple(sorted((*lot, number)))
    return tuple(halves)


def told(row):
    return {name: thing for name, thing in vars(row).items() if name != "halves"}


def small_rules(ship):
    """Rules of one cargo, of a stretch and of a box, with weight 0 and without."""
    area = sum(breadth * (to - start) for start, to, breadth, _, _ in ship.holds)
    middle = Fraction(ship.holds[0][0] + ship.holds[-1][1], 2)
    weight = Fraction(area * 5, 2)
    return (Rule.at((r(weight), r(weight * middle))), Rule.at(point(0, 0)),
            box(0, weight, middle * weight, middle * weight), box(0, weight * 2, -weight, weight + 1))


class Class(Case):
    def test_a_result_keeps_what_it_is_given(self):
        things = ([1], [2], [3], [4], [5])
        row = FloodRow(*things)
        for name, thing in zip(("damage", "lot", "floods", "halves", "corners"), things):
            self.assertIs(getattr(row, name), thing)
        self.assertIs(FloodRow(damage=1, lot=2, floods=3, halves=4, corners=None).corners, None)


class FloodRows(Case):
    def check(self, ship, rule, damage, row, floods, lot):
        halves = halves_along(ship, rule, damage, floods)
        self.same(told(row), {"damage": damage, "lot": lot, "floods": floods, "corners": polygon_of(halves)})
        self.assertIs(type(row.halves), tuple)
        self.assertEqual(row.halves, halves)

    def test_every_row_that_some_cargo_goes_through(self):
        long = 0
        for ship in SHIPS + tuple(some_ships(51, 10)):
            for rule in small_rules(ship):
                for damage in all_lots_of(len(ship))[:6]:
                    wanted = [(floods, lot) for floods, lot in all_orders(ship, damage)
                              if have_common(halves_along(ship, rule, damage, floods))]
                    rows = list(flood_rows(ship, rule, list(damage)))
                    self.same([(row.floods, row.lot) for row in rows], wanted)
                    for row, (floods, lot) in zip(rows, wanted):
                        self.check(ship, rule, damage, row, floods, lot)
                        long += len(floods) > 1
        self.assertGreater(long, 100)

    def test_each_cargo_goes_through_its_own_rows(self):
        for ship in SHIPS:
            for rule in small_rules(ship):
                for damage in all_lots_of(len(ship))[:4]:
                    rows = list(flood_rows(ship, rule, damage))
                    for cargo in corners_and_more(rule)[:9]:
                        through = [(row.floods, row.lot) for row in rows
                                   if all(one.holds_cargo(cargo) for one in row.halves)]
                        self.same(through, walk(ship, damage, cargo))
                        for row in rows:
                            self.same(covers_cargo(row.corners, cargo), (row.floods, row.lot) in through)

    def test_the_example_of_part_9(self):
        rows = [(row.floods, row.lot, row.corners) for row in flood_rows(four_holds(), LINE, (3,))]
        two, one, none = [(at, ("bulkhead", at)) for at in (2, 1, 0)]
        self.same(rows, [((), (3,), points((0, 0), (80, 0))),
                         ((two,), (2, 3), points(("18171/236", 0), (80, 0))),
                         ((two, one), (1, 2, 3), points(("18171/236", 0), (80, 0))),
                         ((two, one, none), (0, 1, 2, 3), points(("11691/148", 0), (80, 0)))])

    def test_one_hold_over_two_edges_makes_two_rows(self):
        floods = [row.floods for row in flood_rows(sieve(), Rule.at(point(150, 0)), (0,))]
        self.same(floods[:6], [(), ((1, ("bulkhead", 0)),), ((1, ("port", 0)),), ((1, ("port", 2)),),
                               ((1, ("port", 3)),), ((2, ("port", 1)),)])
        self.same([row[0] for row in floods[6:]], sorted([row[0] for row in floods[6:]]))

    def test_the_first_is_the_empty_row(self):
        for damage in ((), (0,), (0, 1, 2)):
            first = next(flood_rows(sieve(), Rule.at(point(0, 0)), damage))
            self.same((first.floods, first.lot, first.damage), ((), damage, damage))
            self.assertEqual(first.halves, Rule.at(point(0, 0)).halves)

    def test_behind_a_lot_that_tips_nothing_goes_on(self):
        rows = list(flood_rows(tipping(2000), box(0, 500, -900, 900), (0, 1)))
        self.same([row.floods for row in rows], [()])
        for row in flood_rows(tipping(1560), box(0, 500, -900, 900), (0,)):
            self.assertLess(len(row.floods), 2)

    def test_an_edge_that_is_just_touched(self):
        # With the weight 20 and the moment 0 the line just touches both ports.
        self.same([row.floods for row in flood_rows(rocker(), box(0, 20, 0, 0), ())],
                  [(), ((0, ("port", 0)),), ((1, ("port", 1)),)])
        rows = list(flood_rows(rocker(), box(0, 20, 0, 0), ()))
        self.same([row.corners for row in rows], [points((0, 0), (20, 0)), points((20, 0)), points((20, 0))])
        self.same([row.floods for row in flood_rows(rocker(), box(0, Fraction(199, 10), 0, 0), ())], [()])

    def test_two_generators_side_by_side(self):
        one, other = flood_rows(rocker(), box(0, 20, 0, 0), ()), flood_rows(four_holds(), LINE, (3,))
        got = [(next(one).floods, next(other).lot) for _ in range(3)]
        self.same(got, [((), (3,)), (((0, ("port", 0)),), (2, 3)), (((1, ("port", 1)),), (1, 2, 3))])
        self.same(next(other).lot, (0, 1, 2, 3))
        with self.assertRaises(StopIteration):
            next(one)

    def test_errors(self):
        for thing in NO_LOTS:
            self.refused(BadLot, {}, lambda: list(flood_rows(three_holds(), LINE, thing)))


class RowsOnward(Case):
    def test_the_same_as_flood_rows(self):
        for ship in SHIPS[:5]:
            for rule in small_rules(ship):
                wanted = [told(row) for row in flood_rows(ship, rule, (0,))]
                self.same([told(row) for row in rows_onward(ship, (0,), rule.halves, rule.corners)], wanted)
                rows = rows_onward(ship, [0], list(rule.halves), [list(corner) for corner in rule.corners])
                self.same([told(row) for row in rows], wanted)

    def test_any_closed_half_planes(self):
        # Weights below 0 are no cargoes, but points.
        halves = (half(1, 0, -50), half(-1, 0, 20), half(0, 1, 0), half(0, -1, 0))
        rows = list(rows_onward(four_holds(), (3,), halves, polygon_of(halves)))
        self.same([told(row) for row in rows], [{"damage": (3,), "lot": (3,), "floods": (),
                                                 "corners": points((-50, 0), (-20, 0))}])
        self.assertEqual(rows[0].halves, halves)

    def test_no_corners(self):
        self.same(list(rows_onward(four_holds(), (3,), (half(0, 0, 1),), ())), [])


class Counted(Case):
    def test_up_to_the_most(self):
        damages = check_damages(four_holds(), [(3,), (), (3,)])
        wanted = [row.floods for lot in damages for row in flood_rows(four_holds(), LINE, lot)]
        self.same(len(wanted), 9)
        self.same([row.floods for row in counted_rows(four_holds(), LINE, damages, 9)], wanted)
        self.refused(TooMany, {"most": 8}, lambda: list(counted_rows(four_holds(), LINE, damages, 8)))
        rows = counted_rows(four_holds(), LINE, damages, 3)
        self.same([next(rows).floods for _ in range(3)], wanted[:3])


class RowAlong(Case):
    def test_every_row(self):
        empty = 0
        for ship in SHIPS + tuple(some_ships(52, 4)):
            for rule in small_rules(ship)[1:3]:
                for floods, lot in all_orders(ship, ())[:40] + all_orders(ship, (1,) if len(ship) > 1 else (0,))[:40]:
                    damage = tuple(at for at in lot if at not in [number for number, _ in floods])
                    row = row_along(ship, rule, damage, floods)
                    FloodRows.check(self, ship, rule, damage, row, floods, lot)
                    again = row_along(ship, rule, list(damage), [[number, list(edge)] for number, edge in floods])
                    FloodRows.check(self, ship, rule, damage, again, floods, lot)
                    empty += row.corners == ()
        self.assertGreater(empty, 50)

    def test_later_changes_have_no_effect(self):
        given = [[2, ["bulkhead", 2]]]
        row = row_along(four_holds(), LINE, (3,), given)
        given[0][1].append("more")
        given.append("more")
        self.same(row.floods, ((2, ("bulkhead", 2)),))

    def test_errors(self):
        ship = three_holds()
        for thing in NO_LOTS:
            self.refused(BadLot, {}, row_along, ship, LINE, thing, None)
        first = (1, ("bulkhead", 0))
        for thing in NO_SEQUENCES:
            self.refused(BadFloods, {"index": 0, "what": "pair"}, row_along, ship, LINE, (0,), thing)
            self.refused(BadFloods, {"index": 1, "what": "pair"}, row_along, ship, LINE, (0,), [first, thing])
        for thing in ((), (1,), (1, ("bulkhead", 0), 0)):
            self.refused(BadFloods, {"index": 1, "what": "pair"}, row_along, ship, LINE, (0,), [first, thing])
        for thing in (*NO_WHOLES, -1, 3, 0, 1):
            for edge in (("bulkhead", 0), None):
                told_error = {"index": 1, "what": "hold"}
                self.refused(BadFloods, told_error, row_along, ship, LINE, (0,), [first, (thing, edge)])
        for edge in (None, "port", 0, ("port", 0), ("port", 3), ("bulkhead", 0), ("bulkhead", 2), ("bulkhead", True),
                     ("bulkhead", 1.0), ("bulkhead",), ("bulkhead", 1, 1), (1, "bulkhead"), ["Bulkhead", 1],
                     ("port", "1"), {"bulkhead": 1}, ("door", 1)):
            self.refused(BadFloods, {"index": 1, "what": "edge"}, row_along, ship, LINE, (0,), [first, (2, edge)])
        # Water has come to hold 2 no way yet: its bulkhead is no edge, its port is.
        floods = [(2, ("bulkhead", 1)), first]
        self.refused(BadFloods, {"index": 0, "what": "edge"}, row_along, ship, LINE, (0,), floods)
        self.same(row_along(ship, LINE, (0,), [(2, ["port", 1])]).lot, (0, 2))

    def test_the_first_wrong_flood_counts(self):
        ship = three_holds()
        self.refused(BadFloods, {"index": 0, "what": "edge"}, row_along, ship, LINE, (0,), [(1, None), None])
        self.refused(BadFloods, {"index": 0, "what": "hold"}, row_along, ship, LINE, (0,), [(0, None), None])
        self.refused(BadFloods, {"index": 0, "what": "pair"}, row_along, ship, LINE, (0,), [None, (0, None)])

    def test_nothing_goes_on_behind_a_lot_that_tips(self):
        row = row_along(tipping(1560), LINE, (0,), [(1, ("bulkhead", 0))])
        self.same(row.lot, (0, 1))
        self.refused(BadFloods, {"index": 1, "what": "edge"}, row_along, tipping(1560), LINE, (0,),
                     [(1, ("bulkhead", 0)), (2, ("bulkhead", 1))])

    def test_ship_of_one_hold_and_no_floods(self):
        self.same(told(row_along(one_hold(), LINE, [0], [])),
                  {"damage": (0,), "lot": (0,), "floods": (), "corners": LINE.corners})
        self.same(row_along(two_holds(), LINE, (), ()).halves, LINE.halves)


if __name__ == "__main__":
    unittest.main()
