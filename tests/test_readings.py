import unittest
from fractions import Fraction

from dryholds.errors import BadCargo, BadLot, BadReadings
from dryholds.postures import Tips
from dryholds.readings import Readings, readings_of
from tests.helpers import NO_RATIOS, NO_SEQUENCES, Case, all_lots_of, line, one_hold, point, r, rs, three_holds
from tests.test_lots import NO_LOTS
from tests.test_postures import NO_CARGOES
from tests.walks import SHIPS, height, some_cargoes, tips, tipping

ROW = rs(0, 2, 3)


class Class(Case):
    def test_rows(self):
        for rows in ((ROW,), (rs("-5/2", -1, -1), ROW), (rs(-2000, 0, 9), rs("1/3", "7/2", "7/2"), rs("1/2", -3, 4))):
            readings = Readings(rows)
            self.same(readings.rows, rows)
            self.same((len(readings), list(readings), [row for row in readings]), (len(rows), list(rows), list(rows)))
            self.same(Readings([list(row) for row in rows]).rows, rows)
            self.same(Readings.of(*rows).rows, rows)
            self.assertTrue(Readings.of(*[list(row) for row in rows]) == readings)
            self.same(vars(readings), {"rows": rows})

    def test_low_equal_to_high(self):
        self.same(Readings(rows=((r(1), r(2), r(2)),)).rows, (rs(1, 2, 2),))

    def test_equal(self):
        readings = Readings((ROW, rs(1, 2, 3)))
        self.assertTrue(readings == Readings([list(ROW), rs(1, 2, 3)]))
        for other in (Readings((ROW,)), Readings((ROW, rs(1, 2, 4))), Readings((ROW, rs(1, 1, 3))),
                      Readings((ROW, rs(2, 2, 3))), readings.rows, None):
            self.assertFalse(readings == other)

    def test_later_changes_have_no_effect(self):
        given = [list(ROW)]
        readings = Readings(given)
        given[0].append("more")
        given.append("more")
        self.same(readings.rows, (ROW,))

    def test_of_is_a_static_method(self):
        self.assertIsInstance(vars(Readings)["of"], staticmethod)
        self.refused(BadReadings, {"index": 0, "what": "many"}, Readings.of)
        self.refused(BadReadings, {"index": 0, "what": "row"}, Readings.of, None)


class Errors(Case):
    def wrong(self, index, what, rows):
        self.refused(BadReadings, {"index": index, "what": what}, Readings, rows)
        if isinstance(rows, (list, tuple)):
            self.refused(BadReadings, {"index": index, "what": what}, Readings.of, *rows)

    def test_many(self):
        four = [rs(at, 0, 1) for at in range(4)]
        for rows in (*NO_SEQUENCES, (), [], four, [None] * 4):
            self.wrong(0, "many", rows)

    def test_row(self):
        for thing in (*NO_SEQUENCES, (), ROW[:2], ROW + (r(4),)):
            self.wrong(0, "row", [thing])
            self.wrong(1, "row", (ROW, thing, None))
            self.wrong(2, "row", (ROW, rs(1, 2, 3), thing))

    def test_place(self):
        for thing in NO_RATIOS:
            self.wrong(0, "place", [(thing, r(2), r(3))])
            self.wrong(1, "place", [ROW, (thing, None, None)])

    def test_order(self):
        for place in (0, "-1/2", -9):
            self.wrong(1, "order", [ROW, rs(place, 2, 3)])
            self.wrong(1, "order", [ROW, (r(place), None, None)])
            self.wrong(2, "order", [rs(-99, 0, 0), ROW, rs(place, 3, 2)])

    def test_height(self):
        for thing in NO_RATIOS:
            self.wrong(0, "height", [(r(0), thing, r(3))])
            self.wrong(0, "height", [(r(0), r(2), thing)])
            self.wrong(1, "height", [ROW, (r(1), thing, thing)])

    def test_range(self):
        self.wrong(0, "range", [rs(0, 3, 2)])
        self.wrong(1, "range", [ROW, rs(1, "1/3", "1/4")])
        self.wrong(2, "range", [ROW, rs(1, 0, 0), rs(2, 0, "-1/9")])

    def test_all_words_of_one_row_come_before_those_of_the_next(self):
        self.wrong(0, "range", [rs(0, 3, 2), None])
        self.wrong(0, "place", [(None, None, None), None])
        self.wrong(1, "order", [ROW, rs(0, 3, 2), None])
        self.wrong(0, "height", [(r(0), None, r(1)), (None,)])


class WithRow(Case):
    READINGS = Readings((rs(-3, 1, 2), rs(4, 1, 1)))

    def test_where_its_place_belongs(self):
        for place, at in ((-9, 0), ("-31/10", 0), (-2, 1), ("7/2", 1), (5, 2), (1000, 2)):
            wanted = list(self.READINGS.rows)
            wanted.insert(at, rs(place, "1/2", 3))
            got = self.READINGS.with_row(r(place), r("1/2"), r(3))
            self.assertIs(type(got), Readings)
            self.same(got.rows, tuple(wanted))
        self.same(self.READINGS.rows, (rs(-3, 1, 2), rs(4, 1, 1)))
        self.same(Readings((ROW,)).with_row(place=r(-1), low=r(0), high=r(0)).rows, (rs(-1, 0, 0), ROW))

    def test_errors(self):
        full = self.READINGS.with_row(*rs(0, 0, 0))
        for things in (rs(1, 0, 0), rs(0, 0, 0), (None, None, None)):
            self.refused(BadReadings, {"index": 0, "what": "many"}, full.with_row, *things)
        for thing in NO_RATIOS:
            for what, things in (("place", (thing, None, None)), ("height", (r(0), thing, r(1))),
                                 ("height", (r(0), r(1), thing)), ("order", (r(4), thing, None))):
                self.refused(BadReadings, {"index": 0, "what": what}, self.READINGS.with_row, *things)
        for place in (-3, 4):
            self.refused(BadReadings, {"index": 0, "what": "order"}, self.READINGS.with_row, *rs(place, 3, 2))
        self.refused(BadReadings, {"index": 0, "what": "range"}, self.READINGS.with_row, *rs(0, 3, "5/2"))


class ReadOff(Case):
    def test_heights_of_the_line(self):
        some = 0
        for at, ship in enumerate(SHIPS):
            first, last = ship.ends
            for cargo in some_cargoes(ship, at, 4):
                for lot in all_lots_of(len(ship))[:5]:
                    for places in ((r(first),), (r(first - 3), r(1, 3)), [r(first), r(0), r(last + 9)]):
                        got = readings_of(ship, list(lot), list(cargo), places)
                        if tips(ship, lot):
                            self.assertIs(type(got), Tips)
                            continue
                        some += 1
                        heights = [r(height(ship, lot, cargo, Fraction(*place))) for place in places]
                        self.assertIs(type(got), Readings)
                        self.same(got.rows, tuple((place, one, one) for place, one in zip(places, heights)))
        self.assertGreater(some, 100)

    def test_a_ship_that_tips(self):
        self.assertEqual(readings_of(tipping(2000), (0, 1), point(3, 0), (r(0),)), Tips())
        self.assertIsNone(line(tipping(2000), (0, 1), 3, 0))

    def test_errors_in_their_order(self):
        ship = three_holds()
        for thing in NO_LOTS:
            self.refused(BadLot, {}, readings_of, ship, thing, None, None)
        for what, thing in NO_CARGOES:
            self.refused(BadCargo, {"what": what}, readings_of, ship, (0,), thing, None)
        cargo = point(3, 1)
        for other, lot in ((ship, (0,)), (tipping(2000), (0, 1)), (one_hold(), ())):
            for thing in (*NO_SEQUENCES, (), [], [r(at) for at in range(4)], [None] * 4):
                self.refused(BadReadings, {"index": 0, "what": "many"}, readings_of, other, lot, cargo, thing)
            for thing in NO_RATIOS:
                self.refused(BadReadings, {"index": 0, "what": "place"}, readings_of, other, lot, cargo, [thing])
                self.refused(BadReadings, {"index": 1, "what": "place"}, readings_of, other, lot, cargo, [r(0), thing])
                self.refused(BadReadings, {"index": 2, "what": "place"}, readings_of, other, lot, cargo,
                             (r(0), r(1), thing))
            for places, index in ((rs(1, 1), 1), (rs(1, 0), 1), (rs(0, 1, 1), 2), (rs(0, 2, "3/2"), 2),
                                  ((r(1), r(0), None), 1)):
                self.refused(BadReadings, {"index": index, "what": "order"}, readings_of, other, lot, cargo, places)


if __name__ == "__main__":
    unittest.main()
