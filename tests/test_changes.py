import itertools
import unittest

from dryholds.changes import apply_changes, is_tame
from dryholds.charts import chart_of
from dryholds.compare import Covered, compare_losses
from dryholds.errors import BadChange, BadDamages
from dryholds.rules import Rule, is_within
from dryholds.ship import Ship
from dryholds.verdict import is_safe_cargo
from tests.helpers import NO_RATIOS, NO_SEQUENCES, NO_WHOLES, Case, all_lots_of, f, four_holds, half, one_hold, point, r
from tests.helpers import three_holds
from tests.test_damages import NO_DAMAGES
from tests.test_rows import LINE, small_rules
from tests.walks import SHIPS, box, corners_and_more, sieve, some_ships, two_holds

DAMAGES = ((), (0,), (1, 2), (0, 2), (0,))
WIDE = box(2, 60, -90, 80)
POOL = (("order", 0, 1), ("order", 1, 0), ("order", 2, 1), ("raise", 0, r("9/2")), ("raise", 1, r("7/2")),
        ("raise", 0, r(5)), ("shut", "door", 1), ("shut", "door", 3), ("shut", "port", 0), ("shut", "port", 2),
        ("lighter", r(40)), ("lighter", r(30)))


def changed(ship, rule, damages, changes):
    """What stands behind changes, reckoned one thing after another by the words of the document."""
    changes = [tuple(change) for change in changes]
    tops = list(ship.tops)
    for bulkhead in range(len(tops)):
        tops[bulkhead] = max([tops[bulkhead]] + [c[2] for c in changes if c[:2] == ("raise", bulkhead)], key=f)
    doors = [door for at, door in enumerate(ship.doors) if ("shut", "door", at) not in changes]
    ports = [port for at, port in enumerate(ship.ports) if ("shut", "port", at) not in changes]
    lots = []
    for damage in damages:
        lot = set(damage)
        for change in changes:
            if change[0] == "order" and change[1] in damage:
                lot.add(change[2])
        lots.append(tuple(sorted(lot)))
    mosts = [f(change[1]) for change in changes if change[0] == "lighter"]
    sides = list(rule.sides) + ([half(-1, 0, -min(mosts))] if mosts else [])
    return (Ship(ship.holds, tops, ship.marks, ship.own, doors, ports, ship.slack), Rule(sides), tuple(lots))


class Applied(Case):
    def check(self, changes, ship=None, rule=WIDE, damages=DAMAGES):
        ship = sieve() if ship is None else ship
        got = apply_changes(ship, rule, damages, changes)
        self.same((type(got), len(got)), (tuple, 3))
        wanted = changed(ship, rule, damages, changes)
        self.assertEqual(got[0], wanted[0])
        self.assertEqual(got[1], wanted[1])
        self.same(got[2], wanted[2])
        return got

    def test_each_kind_alone(self):
        for change in POOL:
            ship, rule, damages = self.check((change,))
            self.same(ship == sieve(), change[0] not in ("raise", "shut"))
            self.same(rule == WIDE, change[0] != "lighter")
            self.same(damages == DAMAGES, change[0] != "order")

    def test_by_hand(self):
        self.same(self.check([("order", 0, 1)])[2], ((), (0, 1), (1, 2), (0, 1, 2), (0, 1)))
        self.same(self.check([("order", 2, 1)])[2], ((), (0,), (1, 2), (0, 1, 2), (0,)))
        self.same(self.check([("order", 0, 2)])[2], ((), (0, 2), (1, 2), (0, 2), (0, 2)))
        ship = self.check([("raise", 1, r("7/2"))])[0]
        self.same((ship.tops, ship.doors, ship.ports), ((r(4), r("7/2")), sieve().doors, sieve().ports))
        self.same(self.check([("shut", "door", 1)])[0].doors, sieve().doors[:1] + sieve().doors[2:])
        self.same(self.check([("shut", "port", 3)])[0].ports, sieve().ports[:3])
        rule = self.check([("lighter", r(30))])[1]
        self.assertEqual(rule.sides, (*WIDE.sides, half(-1, 0, -30)))
        self.same(rule.greatest_weight, r(30))

    def test_together_in_every_order_and_told_twice(self):
        for many in (2, 3, 4):
            for changes in itertools.islice(itertools.combinations(POOL, many), 0, None, 7):
                wanted = self.check(changes)
                for order in itertools.islice(itertools.permutations(changes), 0, 24, 5):
                    for rows in (order, order + changes, [list(change) for change in order]):
                        got = self.check(rows)
                        self.assertEqual(got[0], wanted[0])
                        self.assertEqual(got[1], wanted[1])
                        self.same(got[2], wanted[2])

    def test_all_together(self):
        ship, rule, damages = self.check(POOL)
        self.same((ship.tops, len(ship.doors), len(ship.ports)), ((r(5), r("7/2")), 2, 2))
        self.same(damages, ((), (0, 1), (0, 1, 2), (0, 1, 2), (0, 1)))
        self.same(len(rule.sides), len(WIDE.sides) + 1)

    def test_two_orders_never_follow_one_another(self):
        orders = [("order", 3, 2), ("order", 2, 1), ("order", 1, 0)]
        self.same(self.check(orders, four_holds(), LINE, ((3,), (2,), (1, 3)))[2], ((2, 3), (1, 2), (0, 1, 2, 3)))

    def test_an_order_that_does_nothing(self):
        damages = ((0, 1), (1,), (0, 1, 2))
        self.same(self.check([("order", 0, 1)], damages=damages)[2], damages)

    def test_damages_that_become_equal_keep_their_places(self):
        self.same(self.check([("order", 0, 1)], damages=((0, 1), (0,), (0, 1)))[2], ((0, 1),) * 3)

    def test_the_highest_raise_and_the_least_lighter_hold(self):
        tops = [("raise", 0, r(one)) for one in ("41/10", 8, 5)]
        self.same(self.check(tops)[0].tops[0], r(8))
        mosts = [("lighter", r(one)) for one in (50, "5/2", 7)]
        self.same(self.check(mosts)[1].greatest_weight, r("5/2"))

    def test_no_change(self):
        for changes in ((), []):
            ship, rule, _ = self.check(changes)
            self.assertEqual((ship, rule.sides), (sieve(), WIDE.sides))
            self.assertIsNot(ship, sieve())

    def test_numbers_are_those_of_the_ship_that_is_passed(self):
        doors = [("shut", "door", at) for at in range(4)]
        self.same(self.check(doors)[0].doors, ())
        self.same(self.check(doors[2:])[0].doors, sieve().doors[:2])
        ports = [("shut", "port", at) for at in (3, 0)]
        self.same(self.check(ports)[0].ports, sieve().ports[1:3])

    def test_up_to_the_lesser_deck(self):
        self.same(self.check([("raise", 1, r(7))])[0].tops[1], r(7))
        self.same(self.check([("raise", 0, r(8))])[0].tops[0], r(8))

    def test_at_the_least_weight_of_the_rule(self):
        rule = self.check([("lighter", r(2))])[1]
        self.same((rule.least_weight, rule.greatest_weight), (r(2), r(2)))
        self.same(self.check([("lighter", r(1000))])[1].corners, WIDE.corners)

    def test_rules_of_23_sides(self):
        rule = Rule([half(-1, 0, -60 - at) for at in range(21)] + [half(0, 1, 0), half(0, -1, 0)])
        self.same(len(self.check([("lighter", r(3)), ("lighter", r(4))], rule=rule)[1].sides), 24)

    def test_what_is_passed_stays(self):
        damages, changes = [[0], [1]], [["order", 0, 1], ["raise", 0, r(5)]]
        apply_changes(sieve(), WIDE, damages, changes)
        self.same((damages, changes), ([[0], [1]], [["order", 0, 1], ["raise", 0, r(5)]]))


class Errors(Case):
    def wrong(self, what, change, ship=None, rule=WIDE):
        ship = sieve() if ship is None else ship
        self.refused(BadChange, {"index": 0, "what": what}, apply_changes, ship, rule, ((),), [change])
        # The first wrong change counts, whatever comes behind it.
        for more in ((), ("order", 0, 0)):
            self.refused(BadChange, {"index": 2, "what": what}, apply_changes, ship, rule, ((),),
                         (("order", 0, 1), ["order", 1, 0], change, more))

    def test_damages_come_first(self):
        for index, what, thing in NO_DAMAGES:
            self.refused(BadDamages, {"index": index, "what": what}, apply_changes, three_holds(), LINE, thing, None)

    def test_sequence(self):
        for thing in NO_SEQUENCES:
            self.refused(BadChange, {"index": 0, "what": "sequence"}, apply_changes, sieve(), WIDE, ((),), thing)

    def test_change(self):
        for thing in (*NO_SEQUENCES, (), ("order",), ("order", 0), ("order", 0, 1, 2), ("raise", 0), ("lighter",),
                      ("lighter", r(3), 0), ("shut", "door"), ("shut", 0), ("shut", "Door", 0), ("shut", "ports", 0),
                      ("shut", None, 0), ("shut", "door", 0, 0), ("Order", 0, 1), ("lower", 0, r(1)), (None, 0, 1),
                      (0, 0, 1), ((), 0, 1), (["order"], 0, 1), ("", 0, 1), (b"order", 0, 1), ("raise",)):
            self.wrong("change", thing)

    def test_hold(self):
        for thing in (*NO_WHOLES, -1, 3):
            self.wrong("hold", ("order", thing, 1))
            self.wrong("hold", ("order", 1, thing))
        for at in range(3):
            self.wrong("hold", ("order", at, at))
        self.wrong_for_one_hold("hold", ("order", 0, 0))

    def wrong_for_one_hold(self, what, change):
        self.refused(BadChange, {"index": 0, "what": what}, apply_changes, one_hold(), WIDE, ((),), [change])

    def test_bulkhead(self):
        for thing in (*NO_WHOLES, -1, 2):
            self.wrong("bulkhead", ("raise", thing, r(5)))
            self.wrong("bulkhead", ("raise", thing, None))
        self.wrong_for_one_hold("bulkhead", ("raise", 0, r(1)))

    def test_top(self):
        for thing in (*NO_RATIOS, r(4), r(3), r(0), r("801/100")):
            self.wrong("top", ("raise", 0, thing))
        for thing in (r(3), r("701/100"), r(8)):
            self.wrong("top", ("raise", 1, thing))
        full = two_holds(top=6)
        self.refused(BadChange, {"index": 0, "what": "top"}, apply_changes, full, WIDE, ((),), [("raise", 0, r(6))])

    def test_number(self):
        for word in ("door", "port"):
            for thing in (*NO_WHOLES, -1, 4):
                self.wrong("number", ("shut", word, thing))
            self.wrong_for_one_hold("number", ("shut", word, 0))

    def test_weight(self):
        for thing in (*NO_RATIOS, r("199/100"), r(0), r(-5)):
            self.wrong("weight", ("lighter", thing))
        full = Rule([half(-1, 0, -60 - at) for at in range(22)] + [half(0, 1, 0), half(0, -1, 0)])
        self.wrong("weight", ("lighter", r(30)), rule=full)


class Tame(Case):
    def test_is_tame(self):
        for change in POOL:
            self.same(is_tame(change), change[0] != "order")
            self.same(is_tame(list(change)), change[0] != "order")

    def test_behind_tame_changes_no_safe_cargo_is_lost(self):
        changed_ones = 0
        for ship in SHIPS + tuple(some_ships(181, 8)):
            tame = [("shut", "door", at) for at in range(len(ship.doors))]
            tame += [("shut", "port", at) for at in range(len(ship.ports))]
            for at, top in enumerate(ship.tops):
                deck = min(f(ship.holds[at][4]), f(ship.holds[at + 1][4]))
                if f(top) < deck:
                    tame.append(("raise", at, r((f(top) + deck) / 2)))
            damages = tuple(all_lots_of(len(ship))[:3])
            for rule in small_rules(ship)[2:]:
                pool = [*tame, ("lighter", r((f(rule.least_weight) + f(rule.greatest_weight)) / 2))]
                for changes in (pool[:1], pool[-1:], pool[::2], pool):
                    other, less, lots = apply_changes(ship, rule, damages, changes)
                    self.assertTrue(is_within(less, rule))
                    self.same(lots, damages)
                    for cargo in corners_and_more(less)[:6]:
                        before = is_safe_cargo(ship, damages, cargo)
                        behind = is_safe_cargo(other, lots, cargo)
                        self.assertLessEqual(before, behind)
                        changed_ones += before < behind
                    charts = chart_of(other, rule, lots), chart_of(ship, rule, damages)
                    if len(charts[1]) <= 60:
                        self.assertIs(type(compare_losses(*charts)), Covered)
        self.assertGreater(changed_ones, 10)

    def test_an_order_can_save_a_ship_and_lose_one(self):
        ship, cargo = four_holds(), point(80, 0)
        orders = (("order", 3, 0), ("order", 3, 1))
        safe = []
        for changes in ((), orders[:1], orders, orders[1:]):
            other, _, damages = apply_changes(ship, LINE, ((3,),), changes)
            safe.append(is_safe_cargo(other, damages, cargo))
        self.same(safe, [False, True, False, False])


if __name__ == "__main__":
    unittest.main()
