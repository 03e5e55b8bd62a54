import unittest
from fractions import Fraction

from dryholds.common import Barred, barred_fault
from dryholds.errors import BadCargo, BadDamages, BadMost, TooMany
from dryholds.floods import goes_over
from dryholds.lotsfrom import is_lost
from dryholds.rules import Rule
from dryholds.ship import Ship
from dryholds.treejudge import lost_fault, tree_fault
from dryholds.verdict import Lost, Node, Safe, is_safe, is_safe_cargo, loss_of, verdict_of
from dryholds.wrongs import wrongs_of
from tests.helpers import NO_WHOLES, Case, all_lots_of, f, four_holds, half, have_common, hold, one_hold, point, r
from tests.helpers import three_holds
from tests.test_damages import NO_DAMAGES
from tests.test_postures import NO_CARGOES
from tests.test_rows import LINE, all_orders, halves_along, small_rules
from tests.test_ways import open_sea
from tests.walks import SHIPS, box, corners_and_more, edges_into, first_lost_row, rocker, some_cargoes, some_ships
from tests.walks import tipping, two_holds, wrong_ends


def quiet():
    """The rule of cargoes that open_sea floats with, whatever floods."""
    return box(30, 60, -30, 30)


def searched(ship, rule, damages, most=3000):
    """What the verdict is, by a search of every row: "many", (damage, floods, wrong), or the number of rows."""
    many = 0
    for damage in damages:
        for floods, lot in all_orders(ship, damage):
            halves = halves_along(ship, rule, damage, floods)
            if not have_common(halves):
                continue
            many += 1
            if many > most:
                return "many"
            for name, one in wrongs_of(ship, lot):
                if have_common((*halves, one)):
                    return damage, floods, name
    return many


def sums_bar(halves, barred):
    """Whether a Barred contradicts the half-planes, by sums of fractions."""
    chosen = [(halves[at], weight) for at, weight in zip(barred.indices, barred.weights)]
    p, q, bound = [sum(f(getattr(one, name)) * weight for one, weight in chosen) for name in "pqr"]
    strict = any(one.strict for one, _ in chosen)
    right = len(barred.indices) == len(barred.weights) and all(weight > 0 for weight in barred.weights)
    return right and p == q == 0 and (bound > 0 or bound == 0 and strict) and type(barred.indices) is tuple


def shown_rows(ship, rule, damage, node, floods=()):
    """How many rows of floods a tree has; each of its nodes is looked at."""
    lot = tuple(sorted((*damage, *[number for number, _ in floods])))
    halves = halves_along(ship, rule, damage, floods)
    assert isinstance(node, Node) and node.lot == lot and type(node.wrongs) is type(node.onward) is tuple
    assert len(node.wrongs) == len(wrong_ends(ship, lot))
    for (_, one), barred in zip(wrongs_of(ship, lot), node.wrongs):
        assert sums_bar((*halves, one), barred)
    edges = [(number, edge) for number in range(len(ship)) for edge, _, _ in edges_into(ship, lot, number)]
    assert [triple[:2] for triple in node.onward] == edges
    rows = 1
    for number, edge, part in node.onward:
        assert type(part) in (Node, Barred)
        if isinstance(part, Node):
            rows += shown_rows(ship, rule, damage, part, floods + ((number, edge),))
        else:
            assert sums_bar((*halves, dict(goes_over(ship, lot, number))[edge]), part)
    return rows


class Classes(Case):
    def test_attributes(self):
        self.same(vars(Safe(trees=1)), {"trees": 1})
        self.same(vars(Lost(cargo=1, damage=2, floods=3, wrong=4)), {"cargo": 1, "damage": 2, "floods": 3, "wrong": 4})
        self.same(vars(Node(lot=1, wrongs=2, onward=3)), {"lot": 1, "wrongs": 2, "onward": 3})


class Verdicts(Case):
    def ask(self, ship, rule, damages):
        """The verdict, held against the search; the kind of it."""
        wanted = searched(ship, rule, damages)
        got = verdict_of(ship, rule, [list(lot) for lot in damages])
        self.same(is_safe(ship, rule, damages), isinstance(wanted, int))
        if isinstance(wanted, int):
            self.assertIs(type(got), Safe)
            self.assertIs(type(got.trees), tuple)
            rows = [shown_rows(ship, rule, damage, tree) for damage, tree in zip(damages, got.trees, strict=True)]
            self.same(sum(rows), wanted)
            self.assertIsNone(tree_fault(ship, rule, damages, got.trees))
            return "safe"
        self.assertIs(type(got), Lost)
        self.same((got.damage, got.floods, got.wrong), wanted)
        halves = halves_along(ship, rule, got.damage, got.floods)
        lot = tuple(sorted((*got.damage, *[number for number, _ in got.floods])))
        self.assertTrue(all(one.holds_cargo(got.cargo) for one in halves))
        self.assertTrue(dict(wrongs_of(ship, lot))[got.wrong].holds_cargo(got.cargo))
        self.assertTrue(is_lost(ship, got.damage, got.cargo))
        self.assertIsNone(lost_fault(ship, rule, damages, got))
        return "at once" if not got.floods else "later"

    def test_ships_of_many_kinds(self):
        kinds = {}
        for ship in SHIPS + tuple(some_ships(61, 25)):
            lots = all_lots_of(len(ship))
            for rule in small_rules(ship):
                for damages in ((lots[0],), lots[1:3], (lots[0], lots[-1], lots[0])):
                    kind = self.ask(ship, rule, tuple(damages))
                    kinds[kind] = kinds.get(kind, 0) + 1
        self.assertGreater(min(kinds[kind] for kind in ("safe", "at once", "later")), 10)

    def test_rows_of_floods_with_all_orders(self):
        for many in (2, 3):
            ship = open_sea(many)
            self.same(self.ask(ship, quiet(), ((), (0,), (0, 1))), "safe")
            self.same(self.ask(ship, Rule.at(point(40, 0)), ((),)), "safe")

    def test_a_rule_of_one_cargo_of_a_stretch_and_of_weight_0(self):
        ship = rocker()
        self.same(self.ask(ship, Rule.at(point(20, 0)), ((),)), "safe")
        self.same(self.ask(ship, box(0, 20, 0, 0), ((), (0,), (1,))), "safe")
        self.same(self.ask(ship, Rule.at(point(0, 0)), ((), (0, 1))), "safe")
        self.same(self.ask(ship, box(0, 100, 0, 0), ((),)), "later")
        self.same(self.ask(ship, Rule.at(point(0, 1)), ((),)), "at once")

    def test_the_example_of_part_9(self):
        ship = four_holds()
        got = verdict_of(ship, Rule.at(point(80, 0)), ((3,),))
        self.same(vars(got), {"cargo": point(80, 0), "damage": (3,), "floods": ((2, ("bulkhead", 2)),),
                              "wrong": ("mark", 1)})
        self.same(is_safe(ship, Rule.at(point(80, 0)), ((0, 3),)), True)
        self.same(verdict_of(ship, Rule.at(point(80, 0)), ((0, 3), (), (0, 1, 3))).damage, (0, 1, 3))
        self.same(is_safe(ship, box(0, Fraction(18170, 236), 0, 0), ((3,),)), True)
        self.same(is_safe(ship, box(0, Fraction(18171, 236), 0, 0), ((3,),)), False)

    def test_a_line_that_just_touches_is_safe(self):
        # The mark of 5 is touched by the level line of weight 100.
        self.same(is_safe(two_holds(), box(0, 100, 0, 0), ((),)), True)
        self.same(is_safe(two_holds(), box(0, Fraction(1001, 10), 0, 0), ((),)), False)

    def test_a_lot_that_tips_is_lost_for_every_cargo(self):
        got = verdict_of(tipping(2000), box(5, 6, -1, 1), ((0, 1),))
        self.same((got.damage, got.floods, got.wrong), ((0, 1), (), ("tips",)))
        self.assertIn(got.cargo, box(5, 6, -1, 1))

    def test_the_order_of_wrong_ends(self):
        # Beyond both marks and the decks at once: the first mark is told.
        self.same(verdict_of(three_holds(), Rule.at(point(2000, 4000)), ((),)).wrong, ("mark", 0))


class Most(Case):
    def test_just_so_many_rows(self):
        ship, rule, damages = open_sea(3), quiet(), ((), (0,), (0,))
        rows = searched(ship, rule, damages)
        self.assertGreater(rows, 20)
        self.same(len(verdict_of(ship, rule, damages, most=rows).trees), 3)
        self.same(is_safe(ship, rule, damages, most=rows), True)
        for most in (rows - 1, 1, 7):
            self.refused(TooMany, {"most": most}, verdict_of, ship, rule, damages, most=most)
            self.refused(TooMany, {"most": most}, is_safe, ship, rule, damages, most=most)
        self.same(len(verdict_of(ship, Rule.at(point(0, 0)), ((0, 1, 2),), most=1).trees), 1)

    def test_a_loss_counts_up_to_its_own_row(self):
        for ship in SHIPS + tuple(some_ships(62, 10)):
            for rule in small_rules(ship):
                damages = tuple(all_lots_of(len(ship))[:3])
                for most in range(1, 6):
                    wanted = searched(ship, rule, damages, most)
                    if wanted == "many":
                        self.refused(TooMany, {"most": most}, verdict_of, ship, rule, damages, most=most)
                        self.refused(TooMany, {"most": most}, is_safe, ship, rule, damages, most=most)
                    elif isinstance(wanted, int):
                        self.same(is_safe(ship, rule, damages, most=most), True)
                    else:
                        got = verdict_of(ship, rule, damages, most=most)
                        self.same((got.damage, got.floods, got.wrong), wanted)

    def test_the_rows_of_equal_damages_count_each_time(self):
        ship = rocker()
        rule = box(0, 20, 0, 0)
        self.same(searched(ship, rule, ((),)), 3)
        for many in (1, 2, 40):
            self.same(len(verdict_of(ship, rule, ((),) * many, most=3 * many).trees), many)
            self.refused(TooMany, {"most": 3 * many - 1}, verdict_of, ship, rule, ((),) * many, most=3 * many - 1)

    def test_3000_rows_and_more(self):
        rows = [hold(4 * at - 12, 4 * at - 8, at % 3 + 1, "1/2" if at % 2 else "2/3", 100) for at in range(6)]
        ports = [(0, r(-11), r("1/3")), (1, r(-6), r("1/3")), (4, r(5), r("1/4")), (5, r(9), r(1))]
        ship = Ship(rows, [r("1/3")] * 5, [(r(-12), r(100)), (r(5), r(98))], (r(1), r(0)), [], ports)
        rule = box(40, 60, -20, 20)
        verdict = verdict_of(ship, rule, ((),))
        self.same(shown_count(verdict.trees[0]), 2969)
        self.assertIsNone(tree_fault(ship, rule, ((),), verdict.trees))
        lot = (0, 1, 2, 3, 4, 5)
        self.same(is_safe(ship, rule, ((),) + (lot,) * 31, most=3000), True)
        for named in ({}, {"most": 3000}):
            self.refused(TooMany, {"most": 3000}, verdict_of, ship, rule, ((),) + (lot,) * 32, **named)
        self.refused(TooMany, {"most": 2968}, is_safe, ship, rule, ((),), most=2968)

    def test_wrong_numbers(self):
        for call in (verdict_of, is_safe):
            for thing in (*NO_WHOLES, 0, -1, 3001, 1.0, []):
                self.refused(BadMost, {"most": thing}, call, one_hold(), LINE, ((),), most=thing)
                self.refused(BadDamages, {"index": 0, "what": "many"}, call, one_hold(), LINE, (), most=thing)
            with self.assertRaises(TypeError):
                call(one_hold(), LINE, ((),), 3000)

    def test_wrong_damages(self):
        for index, what, thing in NO_DAMAGES:
            for call in (verdict_of, is_safe):
                self.refused(BadDamages, {"index": index, "what": what}, call, three_holds(), LINE, thing)


def shown_count(node):
    return 1 + sum(shown_count(part) for _, _, part in node.onward if isinstance(part, Node))


class OneCargo(Case):
    def test_every_cargo_by_walks(self):
        kinds = {}
        for at, ship in enumerate(SHIPS + tuple(some_ships(63, 25))):
            damages = tuple(all_lots_of(len(ship))[:4])
            for cargo in some_cargoes(ship, at, 6):
                wanted = None
                for damage in damages:
                    found = first_lost_row(ship, damage, cargo)
                    if wanted is None and found is not None:
                        wanted = {"cargo": cargo, "damage": damage, "floods": found[0], "wrong": found[2]}
                got = loss_of(ship, [list(lot) for lot in damages], list(cargo))
                self.same(None if got is None else vars(got), wanted)
                self.same(is_safe_cargo(ship, damages, cargo), wanted is None)
                kinds[wanted and (len(wanted["damage"]) > 0, len(wanted["floods"]) > 0)] = True
        self.assertEqual(len(kinds), 5)

    def test_the_verdict_on_a_rule_of_this_cargo_alone(self):
        for at, ship in enumerate(SHIPS + tuple(some_ships(64, 15))):
            damages = tuple(all_lots_of(len(ship))[:3])
            for cargo in some_cargoes(ship, at, 4):
                got = verdict_of(ship, Rule.at(cargo), damages)
                loss = loss_of(ship, damages, cargo)
                if isinstance(got, Safe):
                    self.assertIsNone(loss)
                else:
                    self.same(vars(loss), vars(got))
                    self.assertIsNone(lost_fault(ship, Rule.at(cargo), damages, loss))

    def test_no_cargo_of_a_safe_rule_is_lost(self):
        for ship in SHIPS:
            damages = tuple(all_lots_of(len(ship))[:3])
            for rule in small_rules(ship):
                lost = [cargo for cargo in corners_and_more(rule) if not is_safe_cargo(ship, damages, cargo)]
                if is_safe(ship, rule, damages):
                    self.same(lost, [])

    def test_no_number_of_rows_is_too_many(self):
        rows = [hold(4 * at - 12, 4 * at - 8, 1, "1/2", 100) for at in range(6)]
        ports = [(at, r(4 * at - 10), r(0)) for at in (0, 2, 3, 5)]
        ship = Ship(rows, [r(0)] * 5, [(r(0), r(100))], (r(1), r(0)), [], ports)
        damages = ((),) * 40
        self.assertIsNone(loss_of(ship, damages, point(40, 0)))
        self.refused(TooMany, {"most": 3000}, verdict_of, ship, Rule.at(point(40, 0)), damages)

    def test_errors_in_their_order(self):
        for call in (loss_of, is_safe_cargo):
            for index, what, thing in NO_DAMAGES:
                self.refused(BadDamages, {"index": index, "what": what}, call, three_holds(), thing, None)
            for what, thing in NO_CARGOES:
                self.refused(BadCargo, {"what": what}, call, three_holds(), ((0,),), thing)


class Trees(Case):
    def test_by_hand(self):
        ship = rocker()
        tree = verdict_of(ship, box(0, 20, 0, 0), ((),)).trees[0]
        self.same([triple[:2] for triple in tree.onward], [(0, ("port", 0)), (1, ("port", 1))])
        self.same([part.lot for _, _, part in tree.onward], [(0,), (1,)])
        inner = tree.onward[0][2]
        self.same([triple[:2] for triple in inner.onward], [(1, ("bulkhead", 0)), (1, ("port", 1))])
        self.same([type(part) for _, _, part in inner.onward], [Barred, Barred])
        # Places in the list: weight from 0, the four sides, the flood of hold 0, the edge.
        halves = [*halves_along(ship, box(0, 20, 0, 0), (), ((0, ("port", 0)),)),
                  dict(goes_over(ship, (0,), 1))[("port", 1)]]
        self.same(len(halves), 7)
        self.assertIsNone(barred_fault(halves, inner.onward[1][2]))
        self.same(inner.onward[1][2].indices[-1], 6)

    def test_half_planes_told_twice(self):
        sides = [half(-1, 0, -20)] * 3 + [half(0, 1, 0)] * 2 + [half(0, -1, 0)] * 2 + [half(1, 0, 0)]
        verdict = verdict_of(rocker(), Rule(sides), ((),))
        self.same(shown_rows(rocker(), Rule(sides), (), verdict.trees[0]), 3)


if __name__ == "__main__":
    unittest.main()
