import unittest

from dryholds.common import Barred, Point
from dryholds.errors import BadDamages, TooMany
from dryholds.floods import goes_over
from dryholds.lotsfrom import has_one_end
from dryholds.restings import OneEnd, TwoEnds, decide_ends, decided_fault
from dryholds.rows import flood_rows
from dryholds.rules import Rule
from dryholds.ship import Ship
from tests.helpers import Case, all_lots_of, four_holds, half, have_common, hold, one_hold, point, r, three_holds
from tests.test_damages import NO_DAMAGES
from tests.test_rows import LINE, all_orders, halves_along, small_rules
from tests.test_verdict import sums_bar
from tests.walks import SHIPS, box, corners_and_more, ends_by_walk, rocker, some_ships, tipping, two_holds, walk


def resting(ship, lot):
    return tuple(one.opposite() for number in range(len(ship)) for _, one in goes_over(ship, lot, number))


def couples(ship, rule, damages):
    """Rows (damage, floods, floods, half-planes) of all couples, by every order of floods."""
    found = []
    for damage in damages:
        rows = [(floods, lot, halves_along(ship, rule, damage, floods)) for floods, lot in all_orders(ship, damage)]
        rows = [row for row in rows if have_common(row[2])]
        for at, (one, lot, halves) in enumerate(rows):
            for other, other_lot, others in rows[at + 1:]:
                if lot != other_lot:
                    both = (*halves, *resting(ship, lot), *others, *resting(ship, other_lot))
                    found.append((damage, one, other, both))
    return found


def way(floods):
    return tuple(number for number, _ in floods)


def few_rows(ship, rule, damages):
    return sum(1 for damage in damages for _ in flood_rows(ship, rule, damage)) <= 60


class Results(Case):
    def test_one_end(self):
        self.same(vars(OneEnd(pairs=1)), {"pairs": 1})
        self.assertTrue(OneEnd(((), 1)) == OneEnd(((), 1)))
        for other in (OneEnd(()), TwoEnds((), 1, 2, 3), None, ((), 1)):
            self.assertFalse(OneEnd(((), 1)) == other)
        pairs = []
        self.assertIs(OneEnd(pairs).pairs, pairs)

    def test_two_ends(self):
        self.same(vars(TwoEnds(cargo=1, damage=2, one=3, other=4)), {"cargo": 1, "damage": 2, "one": 3, "other": 4})
        self.assertTrue(TwoEnds(1, 2, 3, 4) == TwoEnds(1, 2, 3, 4))
        for other in (TwoEnds(0, 2, 3, 4), TwoEnds(1, 0, 3, 4), TwoEnds(1, 2, 0, 4), TwoEnds(1, 2, 3, 0), OneEnd(1)):
            self.assertFalse(TwoEnds(1, 2, 3, 4) == other)


class Deciding(Case):
    def check(self, ship, rule, damages):
        """What is decided, held against every couple of rows; whether there is one end."""
        wanted = couples(ship, rule, damages)
        got = decide_ends(ship, rule, [list(lot) for lot in damages])
        self.assertIsNone(decided_fault(ship, rule, [list(lot) for lot in damages], got))
        both = [row for row in wanted if have_common(row[3])]
        for cargo in corners_and_more(rule)[:6]:
            forked = any(len(ends_by_walk(ship, damage, cargo)) > 1 for damage in damages)
            self.assertLessEqual(forked, bool(both))
        if both:
            damage, one, other, halves = both[0]
            self.assertIs(type(got), TwoEnds)
            self.same((got.damage, got.one, got.other), (damage, way(one), way(other)))
            self.assertTrue(all(one.holds_cargo(got.cargo) for one in halves))
            self.assertFalse(has_one_end(ship, got.damage, got.cargo))
            return False
        self.assertIs(type(got), OneEnd)
        self.assertIs(type(got.pairs), tuple)
        self.same([pair[:3] for pair in got.pairs], [row[:3] for row in wanted])
        for pair, row in zip(got.pairs, wanted):
            self.assertIs(type(pair), tuple)
            self.same(len(pair), 4)
            self.assertTrue(sums_bar(row[3], pair[3]))
        return True

    def test_ships_of_many_kinds(self):
        kinds = []
        for ship in SHIPS + tuple(some_ships(101, 15)):
            lots = all_lots_of(len(ship))
            for rule in small_rules(ship):
                for damages in ((lots[0],), (lots[1], lots[0], lots[1])):
                    if few_rows(ship, rule, damages):
                        kinds.append(self.check(ship, rule, damages))
        self.assertGreater(kinds.count(False), 5)
        self.assertGreater(kinds.count(True), 50)

    def test_by_hand(self):
        # From weight 20 on, below 55/2, either hold may flood, and then the other one stays dry.
        got = decide_ends(rocker(), box(0, 100, 0, 0), ((),))
        self.same((got.damage, got.one, got.other), ((), (0,), (1,)))
        self.same(got.cargo[1], r(0))
        self.assertTrue(20 <= got.cargo[0][0] / got.cargo[0][1] < 27.5)
        self.same(len(decide_ends(rocker(), box(0, 19, 0, 0), ((),)).pairs), 0)
        # Rows: none; 0; 1; 0, 1; 1, 0. Of the ten couples one leads to one lot.
        self.same(len(decide_ends(rocker(), box(28, 30, 0, 0), ((),)).pairs), 9)
        self.same(type(decide_ends(rocker(), box(0, 100, 0, 0), ((0,), (1,)))), OneEnd)
        self.same(decide_ends(rocker(), box(0, 100, 0, 0), ((0,), (), (1,))).damage, ())

    def test_strict_half_planes_that_leave_no_couple(self):
        # At the weight 55/2 alone the resting half-planes are just touched.
        self.same(type(decide_ends(rocker(), Rule.at(point("55/2", 0)), ((),))), OneEnd)
        self.same(type(decide_ends(rocker(), Rule.at(point("549/20", 0)), ((),))), TwoEnds)

    def test_lots_that_tip_are_at_rest(self):
        ship = tipping(1560)
        for rule in (box(0, 500, -900, 900), Rule.at(point("25/2", 25)), Rule.at(point(25, 50))):
            self.check(ship, rule, ((0,),))
            self.check(ship, rule, ((0, 1),))

    def test_one_cargo(self):
        for ship in SHIPS:
            for rule in small_rules(ship)[:2]:
                for damage in all_lots_of(len(ship))[:3]:
                    if few_rows(ship, rule, (damage,)):
                        ends = ends_by_walk(ship, damage, rule.corners[0])
                        self.same(isinstance(decide_ends(ship, rule, (damage,)), OneEnd), len(ends) == 1)


class Many(Case):
    def test_60_rows_and_more(self):
        ship, rule = rocker(), box(20, 20, 0, 0)
        self.same(len(list(flood_rows(ship, rule, ()))), 3)
        level = box(0, 19, 0, 0)
        self.assertEqual(decide_ends(ship, level, ((),) * 40), OneEnd(()))
        self.same(type(decide_ends(ship, rule, ((),) * 20)), TwoEnds)
        damages = ((),) * 20 + ((0, 1),)
        # More than 60 rows are refused ahead of two ends that would be found at once.
        self.refused(TooMany, {"most": 60}, decide_ends, ship, rule, damages)
        self.refused(TooMany, {"most": 60}, decided_fault, ship, rule, damages, OneEnd(None))
        self.same(decided_fault(ship, rule, damages, TwoEnds(point(20, 0), (), (0,), (1,))), None)

    def test_just_60_rows_with_all_their_couples(self):
        ship = Ship([hold(-9, -3), hold(-3, 3), hold(3, 9)], [r(0), r(0)], [(r(0), r(9))], (r(0), r(0)), [],
                       [(1, r(0), r(0)), (1, r(1), r(0))])
        rule = box(20, 30, -3, 3)
        many = sum(1 for _ in flood_rows(ship, rule, ()))
        damages = ((),) * (60 // many) + ((0, 1, 2),) * (60 % many)
        got = decide_ends(ship, rule, damages)
        self.assertIsNone(decided_fault(ship, rule, damages, got))
        self.refused(TooMany, {"most": 60}, decide_ends, ship, rule, damages + ((0, 1, 2),))


class OneEndFaults(Case):
    SHIP = rocker()
    RULE = box(28, 30, 0, 0)
    DAMAGES = ((), (0,))
    PAIRS = decide_ends(rocker(), box(28, 30, 0, 0), ((), (0,))).pairs

    def fault(self, pairs):
        return decided_fault(self.SHIP, self.RULE, self.DAMAGES, OneEnd(pairs))

    def changed(self, index, *pair):
        return self.PAIRS[:index] + (pair,) + self.PAIRS[index + 1:]

    def test_right(self):
        self.assertIsNone(self.fault(self.PAIRS))

    def test_couples(self):
        damage, one, other, barred = self.PAIRS[3]
        for pairs in ((), None, self.PAIRS[1:], self.PAIRS[::-1], self.PAIRS + self.PAIRS[:1],
                      self.changed(3, damage, one, other), self.changed(3, damage, one, other, barred, barred),
                      self.changed(3, (0,), one, other, barred), self.changed(3, damage, other, one, barred),
                      self.changed(3, damage, one, one, barred), self.changed(3, None, one, other, barred),
                      self.PAIRS[:3] + (None,) + self.PAIRS[4:]):
            self.same(self.fault(pairs), "couples")
        damage, one, other, barred = self.PAIRS[0]
        self.same((one, other), ((), ((0, ("port", 0)),)))
        for other in (((False, ("port", 0)),), ((0, ("port", False)),), ((0, ("port", 1)),), (0,)):
            self.same(self.fault(self.changed(0, damage, one, other, barred)), "couples")

    def test_barred(self):
        for at, (damage, one, other, barred) in enumerate(self.PAIRS):
            for thing in (None, Point(point(0, 0)), Barred((0,), (1,)), Barred((0, 1, 2, 3), (1, 1, 1, 1)), "x",
                          Barred(barred.indices, barred.weights[:-1]), Barred((), ()), OneEnd(()), 0):
                self.same(self.fault(self.changed(at, damage, one, other, thing)), "barred")

    def test_the_first_word_where_two_faults_stand(self):
        damage, one, other, _ = self.PAIRS[0]
        spoiled = self.changed(0, damage, one, other, None)
        self.same(self.fault(spoiled[:-1]), "couples")
        self.same(self.fault(spoiled[:-1] + ((damage, one, other, None),)), "couples")


class TwoEndsFaults(Case):
    def fault(self, cargo=point(21, 0), damage=(), one=(0,), other=(1,)):
        return decided_fault(rocker(), box(0, 100, -3, 3), ((1,), ()), TwoEnds(cargo, damage, one, other))

    def test_any_that_are_right(self):
        self.assertIsNone(self.fault())
        self.assertIsNone(self.fault(one=(1,), other=(0,)))
        self.assertIsNone(self.fault(cargo=point(20, 0)))

    def test_rule(self):
        for cargo in (point(101, 0), point(21, 4), point(-1, 0), None, (21, 0), (r(21),), ((True, 1), r(0))):
            self.same(self.fault(cargo=cargo), "rule")

    def test_damage(self):
        for damage in ((0,), (0, 1), (True,), None, 0, "()", ((),)):
            self.same(self.fault(damage=damage), "damage")

    def test_way(self):
        for thing in ((2,), (0, 1), (True,), (False,), None, 0, (0, 0), ("0",)):
            self.same(self.fault(one=thing), "way")
            self.same(self.fault(other=thing), "way")

    def test_rest(self):
        self.same(self.fault(one=()), "rest")
        self.same(self.fault(other=()), "rest")
        self.same(self.fault(cargo=point(30, 0)), "rest")

    def test_same(self):
        self.same(self.fault(other=(0,)), "same")
        self.same(self.fault(cargo=point(30, 0), one=(0, 1), other=(1, 0)), "same")
        self.same(self.fault(damage=(1,), one=(), other=()), "same")

    def test_the_first_word_where_two_faults_stand(self):
        self.same(self.fault(cargo=point(101, 0), damage=(0,), one=None), "rule")
        self.same(self.fault(damage=(0,), one=None), "damage")
        self.same(self.fault(one=(), other=None), "way")
        self.same(self.fault(one=(), other=()), "rest")

    def test_every_two_rows_of_a_cargo(self):
        for ship in SHIPS:
            rule = small_rules(ship)[3]
            for cargo in corners_and_more(rule)[:4]:
                rows = walk(ship, (), cargo)[:12]
                ends = ends_by_walk(ship, (), cargo)
                for one, lot in rows:
                    for other, other_lot in rows:
                        wanted = "same" if lot == other_lot else None
                        wanted = wanted if lot in ends and other_lot in ends else "rest"
                        decided = TwoEnds(cargo, (), way(one), way(other))
                        self.same(decided_fault(ship, rule, ((),), decided), wanted)


class Errors(Case):
    def test_damages_come_first(self):
        for index, what, thing in NO_DAMAGES:
            told = {"index": index, "what": what}
            self.refused(BadDamages, told, decide_ends, three_holds(), LINE, thing)
            self.refused(BadDamages, told, decided_fault, three_holds(), LINE, thing, OneEnd(()))
            self.refused(BadDamages, told, decided_fault, three_holds(), LINE, thing, TwoEnds(None, None, None, None))

    def test_ships_without_ports_have_one_end(self):
        for ship in (one_hold(), two_holds(), four_holds()):
            self.assertEqual(decide_ends(ship, LINE, ((),)), OneEnd(()))
        self.same(decided_fault(one_hold(), Rule([half(-1, 0, -1), half(0, 1, 0), half(0, -1, 0)]), ((),), OneEnd(())),
                  None)


if __name__ == "__main__":
    unittest.main()
