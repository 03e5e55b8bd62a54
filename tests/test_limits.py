import unittest
from fractions import Fraction

from dryholds.changes import apply_changes
from dryholds.errors import BadBulkhead, BadDamages, HasDoor
from dryholds.limits import Limit, Sunk, lightest_loss, top_limit
from dryholds.polygons import halves_of
from dryholds.rules import Rule
from dryholds.ship import Ship
from dryholds.treejudge import lost_fault
from dryholds.verdict import is_safe, verdict_of
from dryholds.wrongs import wrongs_of
from tests.helpers import NO_WHOLES, Case, all_lots_of, f, four_holds, half, have_common, hold, one_hold, point
from tests.helpers import points, r, three_holds
from tests.test_charts import DAMAGES, RULE
from tests.test_damages import NO_DAMAGES
from tests.test_mends import ORDERS
from tests.test_rows import LINE, all_orders, halves_along, small_rules
from tests.walks import SHIPS, box, first_lost_row, rocker, sieve, some_ships, tipping, two_holds

HAIR = Fraction(1, 10 ** 9)


def is_lost_at(ship, rule, damages, line):
    """Whether a cargo of the rule on a line, told by two half-planes, is lost; by elimination, row by row."""
    for damage in damages:
        for floods, lot in all_orders(ship, damage):
            halves = halves_along(ship, rule, damage, floods) + line
            if have_common(halves) and any(have_common((*halves, one)) for _, one in wrongs_of(ship, lot)):
                return True
    return False


class Results(Case):
    def test_limits(self):
        self.same(vars(Limit(value=r(1), reached=True)), {"value": r(1), "reached": True})
        self.assertTrue(Limit(r(1), False) == Limit(r(1), False))
        for other in (Limit(r(2), False), Limit(r(1), True), (r(1), False), None, Sunk(1)):
            self.assertFalse(Limit(r(1), False) == other)
        value = [1]
        self.assertIs(Limit(value, 0).value, value)

    def test_sunk(self):
        lost = [1]
        self.assertIs(Sunk(lost=lost).lost, lost)


class Lightest(Case):
    def check(self, ship, rule, damages):
        """The Limit, once the verdict is asked just below, at and above it, and far from it."""
        got = lightest_loss(ship, rule, [list(damage) for damage in damages])
        low, high = f(rule.least_weight), f(rule.greatest_weight)
        if got is None:
            self.same(is_safe(ship, rule, damages), True)
            return None
        self.assertIs(type(got), Limit)
        value = f(got.value)
        self.assertIn(got.reached, (True, False))
        self.assertTrue(low <= value <= high)
        for most in (value - HAIR, value, value + HAIR, low, (low + value) / 2, (value + high) / 2, high):
            if most >= low:
                wanted = most < value or most == value and not got.reached
                behind = apply_changes(ship, rule, damages, (("lighter", r(most)),))
                self.same(is_safe(*behind), wanted)
        weight = (half(1, 0, value), half(-1, 0, -value))
        self.same(is_lost_at(ship, rule, damages, weight), got.reached)
        self.same(is_lost_at(ship, rule, damages, (half(-1, 0, -value, True),)), False)
        return got

    def test_the_example(self):
        ship, damages = four_holds(), ((3,),)
        rule = box(0, 80, 0, 0)
        self.assertTrue(self.check(ship, rule, damages) == Limit((18171, 236), True))
        both = apply_changes(ship, rule, damages, ORDERS)
        self.assertTrue(self.check(*both) == Limit((78, 1), False))
        self.assertIsNone(self.check(*apply_changes(ship, rule, damages, ORDERS[:1])))

    def test_the_example_of_part_7(self):
        # The keel is lost from the weight 0 on; with the moment 0 the mark is passed above 40.
        self.assertTrue(self.check(one_hold(), RULE, DAMAGES) == Limit(r(0), True))
        self.assertTrue(self.check(one_hold(), box(0, 60, 0, 0), DAMAGES) == Limit(r(40), False))
        self.assertTrue(self.check(one_hold(), box(50, 60, 0, 0), DAMAGES) == Limit(r(50), True))
        self.assertIsNone(self.check(one_hold(), box(0, 40, 0, 0), DAMAGES))
        # The keel is lost with the moment 100 at every weight below 30, so at the least one.
        self.assertTrue(self.check(one_hold(), box(10, 35, 99, 100), ((),)) == Limit(r(10), True))

    def test_ships_of_many_kinds(self):
        kinds = {}
        for ship in SHIPS + tuple(some_ships(201, 10)):
            lots = all_lots_of(len(ship))
            for rule in small_rules(ship):
                for damages in ((lots[0],), (lots[1], lots[0])):
                    if sum(len(all_orders(ship, damage)) for damage in damages) < 120:
                        got = self.check(ship, rule, damages)
                        kind = got and (got.reached, got.value == rule.least_weight)
                        kinds[kind] = kinds.get(kind, 0) + 1
        self.assertTrue({None, (True, True), (False, False), (True, False)} <= set(kinds))

    def test_a_mark_that_is_just_touched_is_not_reached(self):
        # With both holds flooded the line is level at w / 10; the marks stand at 8 and at 5.
        self.assertTrue(self.check(rocker(), box(0, 100, 0, 0), ((),)) == Limit(r(80), False))
        self.assertTrue(self.check(two_holds(), box(0, 100, 0, 0), ((0, 1),)) == Limit(r(50), False))
        self.assertTrue(self.check(two_holds(), box(0, 200, 0, 0), ((),)) == Limit(r(100), False))

    def test_a_border_whose_ends_are_both_on_the_line(self):
        # The mark is just touched by all cargoes of the weight 80.
        self.assertTrue(self.check(one_hold(), box(70, 90, -20, 20), ((),)) == Limit(r(80), False))
        # A cargo of the weight 70 and the moment 250 is below the keel, one of the weight 70 and 0 is not.
        self.assertTrue(self.check(one_hold(), box(70, 90, 0, 250), ((),)) == Limit(r(70), True))

    def test_a_lot_that_tips(self):
        got = self.check(tipping(2000), box(5, 6, -1, 1), ((0, 1),))
        self.assertTrue(got == Limit(r(5), True))

    def test_errors(self):
        for index, what, thing in NO_DAMAGES:
            self.refused(BadDamages, {"index": index, "what": what}, lightest_loss, three_holds(), LINE, thing)


def without_doors(ship):
    for _ in range(len(ship.doors)):
        ship = ship.without_door(0)
    return ship


class Tops(Case):
    def check(self, ship, rule, damages, bulkhead):
        got = top_limit(ship, rule, [list(damage) for damage in damages], bulkhead)
        deck = min(f(ship.holds[bulkhead][4]), f(ship.holds[bulkhead + 1][4]))
        if isinstance(got, Sunk):
            self.assertIsNone(lost_fault(ship, rule, damages, got.lost))
            self.assertNotIn(("bulkhead", bulkhead), [edge for _, edge in got.lost.floods])
            self.assertIsNotNone(first_lost_row(ship, got.lost.damage, got.lost.cargo))
            tops = [(top, False) for top in (Fraction(0), deck / 2, deck)]
        elif got is None:
            tops = [(top, True) for top in (Fraction(0), deck / 2, deck)]
        else:
            self.assertIs(type(got), Limit)
            value = f(got.value)
            self.assertGreaterEqual(value, 0)
            tops = [(top, top > value or top == value and not got.reached)
                    for top in (Fraction(0), deck / 2, deck, value - HAIR, value, value + HAIR, f(ship.tops[bulkhead]))]
        for top, wanted in tops:
            if 0 <= top <= deck:
                self.same(is_safe(ship.with_top(bulkhead, r(top)), rule, damages), wanted)
        return got

    def test_the_example(self):
        ship, damages = four_holds(), ((3,),)
        rule = box(0, 80, 0, 0)
        self.assertTrue(self.check(ship, rule, damages, 2) == Limit((1888, 673), True))
        for bulkhead in (0, 1):
            self.assertIs(type(self.check(ship, rule, damages, bulkhead)), Sunk)

    def test_ships_of_many_kinds(self):
        kinds = {}
        for ship in SHIPS + tuple(some_ships(202, 16)):
            ship = without_doors(ship)
            lots = all_lots_of(len(ship))
            for rule in small_rules(ship):
                for damages in ((lots[1],), (lots[-2], lots[0]), (lots[0],)):
                    for bulkhead in range(len(ship) - 1):
                        got = self.check(ship, rule, damages, bulkhead)
                        kind = got.reached if isinstance(got, Limit) else got and "sunk"
                        kinds[kind] = kinds.get(kind, 0) + 1
        self.assertGreater(kinds[None], 5)
        self.assertGreater(kinds["sunk"], 5)
        self.assertGreater(kinds[True], 5)

    def test_a_limit_that_is_not_reached(self):
        # A stretch on which the mark is passed the more, the lower the line stands at the bulkhead: the cargo that
        # just stands at the mark has the highest line, and is not lost.
        rule = Rule(halves_of(points((63, 78), (67, 38))))
        got = self.check(four_holds(), rule, ((3,),), 2)
        self.assertTrue(got == Limit((41436, 16825), False))

    def test_the_deck_itself_is_too_low(self):
        # With hold 1 flooded the line is level at 6, just at the decks and at the highest top that there may be.
        ship = Ship([hold(-10, 0, 1, "1/2", 6), hold(0, 10, 1, "1/2", 6)], [r(6)], [(r(0), r(6))], (r(0), r(0)))
        rule = Rule.at(point(90, -150))
        self.assertTrue(self.check(ship, rule, ((1,),), 0) == Limit(r(6), True))
        # A bit heavier, she is lost without the flood.
        self.assertIs(type(self.check(ship, Rule.at(point(91, -150)), ((1,),), 0)), Sunk)

    def test_any_top_will_do(self):
        ship = two_holds(top=3)
        self.assertIsNone(self.check(ship, box(0, 20, 0, 0), ((0,), (1,)), 0))
        self.assertIsNone(self.check(ship, Rule.at(point(0, 0)), ((0, 1),), 0))

    def test_a_lower_top_than_now(self):
        ship, rule = four_holds(), box(0, 60, 0, 0)
        got = self.check(ship, rule, ((3,),), 2)
        self.assertTrue(got is None or f(got.value) < f(r(27, 10)))

    def test_other_bulkheads_may_have_doors(self):
        ship = sieve()
        for bulkhead in (0, 1):
            self.refused(HasDoor, {"bulkhead": bulkhead}, top_limit, ship, LINE, ((),), bulkhead)
        other = ship.without_door(2)
        self.refused(HasDoor, {"bulkhead": 0}, top_limit, other, LINE, ((),), 0)
        self.check(other, box(0, 100, 0, 60), ((0,),), 1)

    def test_errors_in_their_order(self):
        for index, what, thing in NO_DAMAGES:
            self.refused(BadDamages, {"index": index, "what": what}, top_limit, three_holds(), LINE, thing, None)
        for thing in (*NO_WHOLES, -1, 2):
            self.refused(BadBulkhead, {"bulkhead": thing}, top_limit, three_holds(), LINE, ((),), thing)
        for bulkhead in (0, 1):
            self.refused(HasDoor, {"bulkhead": bulkhead}, top_limit, three_holds(), LINE, ((),), bulkhead)
        self.refused(BadBulkhead, {"bulkhead": 0}, top_limit, one_hold(), LINE, ((),), 0)

    def test_the_verdict_names_no_other_cargo(self):
        ship, rule = four_holds(), box(0, 80, 0, 0)
        lost = verdict_of(ship.with_top(2, (1888, 673)), rule, ((3,),))
        self.same(lost.cargo, point(80, 0))
        self.same(is_safe(ship.with_top(2, r(Fraction(1888, 673) + HAIR)), rule, ((3,),)), True)


if __name__ == "__main__":
    unittest.main()
