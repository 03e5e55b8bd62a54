import unittest
from fractions import Fraction

from dryholds.charts import chart_of
from dryholds.errors import BadDamages, BadMost, BadPlace, TooMany
from dryholds.heights import Reached, highest_line, lowest_line
from dryholds.polygons import polygon_of
from dryholds.postures import Tips
from dryholds.rules import Rule
from dryholds.ship import Ship
from tests.helpers import NO_RATIOS, NO_WHOLES, Case, all_lots_of, f, four_holds, one_hold, point, r, three_holds
from tests.test_damages import NO_DAMAGES
from tests.test_rows import LINE, all_orders, halves_along, small_rules
from tests.test_verdict import quiet, searched
from tests.test_ways import open_sea
from tests.walks import SHIPS, box, height, rocker, some_ships, tipping, tips

BOTH = ((highest_line, 1), (lowest_line, -1))


def farthest(ship, rule, damages, place, way, most=3000):
    """"many", "tips", or (height, damage, floods) of the first row that reaches it, by every corner of every row."""
    best, many = None, 0
    for damage in damages:
        for floods, lot in all_orders(ship, damage):
            corners = polygon_of(halves_along(ship, rule, damage, floods))
            if not corners:
                continue
            many += 1
            if many > most:
                return "many"
            if tips(ship, lot):
                return "tips"
            top = max(way * height(ship, lot, corner, place) for corner in corners)
            if best is None or top > best[0]:
                best = (top, damage, floods)
    return (way * best[0], *best[1:])


class Heights(Case):
    def check(self, call, way, ship, rule, damages, place):
        wanted = farthest(ship, rule, damages, place, way)
        got = call(ship, rule, [list(lot) for lot in damages], r(place))
        if wanted == "tips":
            self.assertIs(type(got), Tips)
            return None
        self.assertIs(type(got), Reached)
        self.same((got.height, got.damage, got.floods), (r(wanted[0]), *wanted[1:]))
        halves = halves_along(ship, rule, got.damage, got.floods)
        self.assertTrue(all(one.holds_cargo(got.cargo) for one in halves))
        lot = tuple(sorted((*got.damage, *[number for number, _ in got.floods])))
        self.same(got.height, r(height(ship, lot, got.cargo, place)))
        return got

    def test_over_all_corners_of_all_rows(self):
        tipped = long = 0
        for ship in SHIPS + tuple(some_ships(71, 8)):
            lots = all_lots_of(len(ship))
            ends = [Fraction(end) for end in ship.ends]
            for rule in small_rules(ship):
                for damages in ((lots[0],), (lots[1], lots[0], lots[1])):
                    for place in (ends[0], ends[1] + 7, (ends[0] + ends[1]) / 3):
                        for call, way in BOTH:
                            got = self.check(call, way, ship, rule, damages, place)
                            tipped += got is None
                            long += got is not None and len(got.floods) > 0
        self.assertGreater(tipped, 10)
        self.assertGreater(long, 30)

    def test_by_hand(self):
        # The numbers of the example of part 9, with a bulkhead that lets no more water through.
        got = highest_line(four_holds().with_top(1, r("39/10")), LINE, ((3,),), r(20))
        self.same((got.height, got.cargo, got.damage, got.floods),
                  (r("48/11"), point(80, 0), (3,), ((2, ("bulkhead", 2)),)))
        low = lowest_line(one_hold(), box(0, 60, -100, 100), ((),), r(-10))
        self.same((low.height, low.cargo, low.floods), (r("-3/2"), point(0, 100), ()))
        self.same(highest_line(one_hold(), Rule.at(point(0, 0)), ((),), r(900)).height, r(0))

    def test_the_first_of_rows_that_reach_it(self):
        # With hold 0 gone and with hold 1 gone the line stands as high over the middle.
        for damages, damage in ((((0,), (1,)), (0,)), (((1,), (0,)), (1,))):
            self.same(highest_line(rocker(), box(0, 20, 0, 0), damages, r(0)).damage, damage)
        self.same(highest_line(rocker(), box(20, 20, 0, 0), ((),), r(0)).floods, ((0, ("port", 0)),))

    def test_a_mark_at_this_height_is_never_passed(self):
        passed = 0
        for ship in SHIPS[:5] + tuple(some_ships(72, 6)):
            for rule in small_rules(ship)[1:]:
                for damages in (((),), ((0,), ())):
                    place = Fraction(sum(ship.ends), 2)
                    got = highest_line(ship, rule, damages, r(place))
                    if isinstance(got, Tips) or f(got.height) <= 0:
                        continue
                    passed += 1
                    for by, passes in ((0, False), (Fraction(1, 10 ** 6), True), (f(got.height), True)):
                        mark = (r(place), r(f(got.height) - by))
                        other = Ship(ship.holds, ship.tops, [mark], ship.own, ship.doors, ship.ports, ship.slack)
                        pieces = chart_of(other, rule, damages).pieces
                        self.same(("mark", 0) in [piece.wrong for piece in pieces], passes)
        self.assertGreater(passed, 10)

    def test_wrong_rows_count_too(self):
        # She is lost at once, and stands highest when both holds are flooded behind it.
        got = highest_line(rocker(), Rule.at(point(300, 0)), ((),), r(0))
        self.same(got.height, r(height(rocker(), (0, 1), point(300, 0), 0)))
        self.same(got.floods, ((0, ("bulkhead", 0)),) if got.damage else ((0, ("port", 0)), (1, ("bulkhead", 0))))


class Most(Case):
    def test_just_so_many_rows(self):
        ship, rule, damages = open_sea(2), quiet(), ((), (0,), (0,))
        rows = searched(ship, rule, damages)
        for call, _ in BOTH:
            self.assertIs(type(call(ship, rule, damages, r(0), most=rows)), Reached)
            self.assertIs(type(call(ship, rule, damages, r(0), most=3000)), Reached)
            for most in (1, rows - 1):
                self.refused(TooMany, {"most": most}, call, ship, rule, damages, r(0), most=most)
            self.assertIs(type(call(ship, rule, ((0, 1),), r(0), most=1)), Reached)

    def test_tipping_ahead_of_and_behind_the_most(self):
        # The damage (0,) has the row that tips as its second one.
        ship, rule = tipping(1560), box(0, 500, -900, 900)
        self.same(farthest(ship, rule, ((0,),), 0, 1, 2), "tips")
        for call, way in BOTH:
            self.assertEqual(call(ship, rule, ((0,),), r(0), most=2), Tips())
            self.refused(TooMany, {"most": 1}, call, ship, rule, ((0,),), r(0), most=1)
            self.assertEqual(call(ship, rule, ((0,), (1,)), r(0), most=2), Tips())
            self.assertEqual(call(ship, rule, ((0, 1), ()), r(0), most=1), Tips())
            for most in range(1, 12):
                damages = ((), (2,), (0, 1))
                wanted = farthest(ship, rule, damages, 5, way, most)
                if wanted == "many":
                    self.refused(TooMany, {"most": most}, call, ship, rule, damages, r(5), most=most)
                else:
                    self.same(wanted, "tips")
                    self.assertEqual(call(ship, rule, damages, r(5), most=most), Tips())

    def test_errors_in_their_order(self):
        for call, _ in BOTH:
            for index, what, thing in NO_DAMAGES:
                self.refused(BadDamages, {"index": index, "what": what}, call, three_holds(), LINE, thing, None, most=0)
            for thing in NO_RATIOS:
                self.refused(BadPlace, {"place": thing}, call, three_holds(), LINE, ((),), thing, most=0)
            for thing in (*NO_WHOLES, 0, 3001, -1):
                self.refused(BadMost, {"most": thing}, call, three_holds(), LINE, ((),), r(0), most=thing)
                self.refused(BadMost, {"most": thing}, call, tipping(2000), LINE, ((0, 1),), r(0), most=thing)
            with self.assertRaises(TypeError):
                call(one_hold(), LINE, ((),), r(0), 3000)


class Results(Case):
    def test_attributes(self):
        self.same(vars(Reached(height=1, cargo=2, damage=3, floods=4)),
                  {"height": 1, "cargo": 2, "damage": 3, "floods": 4})


if __name__ == "__main__":
    unittest.main()
