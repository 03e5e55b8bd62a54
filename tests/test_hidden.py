import unittest
from fractions import Fraction

from dryholds.errors import BadDamages, BadHold
from dryholds.fits import Filling, filling_fault
from dryholds.hidden import hidden_hold, parting_place
from dryholds.postures import posture_of
from dryholds.readings import readings_of
from dryholds.rules import Rule
from dryholds.ship import Ship
from tests.helpers import NO_WHOLES, Case, all_lots_of, f, half, have_common, hold, one_hold, point, r, sums
from tests.helpers import three_holds
from tests.test_charts import DAMAGES, RULE
from tests.test_damages import NO_DAMAGES
from tests.test_rows import LINE, all_orders, halves_along, small_rules
from tests.walks import SHIPS, box, height, rocker, some_cargoes, some_ships, tipping, tips, two_holds


def filling(lot, cargo):
    return Filling(lot, (), lot, cargo)


def halves_of_lines(ship, rule, damage, floods, lot):
    """The half-planes of a row of floods, told by the line (s, t) in place of the cargo."""
    p, q, rest = sums(ship, lot)
    own, turn = f(ship.own[0]), f(ship.own[1])
    rows = []
    for one in halves_along(ship, rule, damage, floods):
        a, b, bound = f(one.p), f(one.q), f(one.r)
        rows.append(half(a * p + b * q, a * q + b * rest, bound + a * own + b * turn))
    return tuple(rows)


def is_hidden(ship, rule, damages, number):
    """Whether two rows, one with the hold flooded and one without it, have a common line."""
    rows = []
    for damage in damages:
        for floods, lot in all_orders(ship, damage):
            if not tips(ship, lot):
                halves = halves_of_lines(ship, rule, damage, floods, lot)
                if have_common(halves):
                    rows.append((lot, halves))
    return any(have_common(one + other) for lot, one in rows if number in lot
               for dry, other in rows if number not in dry)


class Parting(Case):
    def test_the_first_end_at_which_lines_differ(self):
        kinds = {}
        for at, ship in enumerate(SHIPS + tuple(some_ships(161, 6))):
            lots = [lot for lot in all_lots_of(len(ship)) if not tips(ship, lot)][:4]
            cargoes = some_cargoes(ship, at, 4)
            for one, other in zip(lots, lots[::-1]):
                for cargo in cargoes:
                    for its in cargoes:
                        wanted = None
                        for end in ship.ends[::-1]:
                            if height(ship, one, cargo, end) != height(ship, other, its, end):
                                wanted = r(end)
                        self.same(parting_place(ship, filling(one, cargo), filling(other, its)), wanted)
                        kinds[wanted and ship.ends.index(wanted[0])] = True
        self.assertTrue({None, 0} <= set(kinds))

    def test_lines_that_cross_at_an_end(self):
        # Dry, the line is w / 20 + 3 m x / 2000.
        ship = one_hold()
        level, upward, downward = [filling((), point(40, moment)) for moment in (0, 50, -50)]
        raised = filling((), (r(55), r(50)))
        self.same(parting_place(ship, level, upward), r(-10))
        self.same(parting_place(ship, level, level), None)
        # 55 / 20 - 3 * 50 * 10 / 2000 = 2: both lines are at 2 at the place -10.
        self.same(parting_place(ship, level, raised), r(10))
        self.same(parting_place(ship, raised, level), r(10))
        self.same(parting_place(ship, upward, downward), r(-10))
        # At the place 10 they cross: the first end tells them apart.
        self.same(parting_place(ship, level, filling((), (r(55), r(-50)))), r(-10))

    def test_none_means_equal_at_all_places(self):
        ship = one_hold()
        one, other = filling((), point(40, 20)), filling((0,), point(20, 10))
        self.assertIsNone(parting_place(ship, one, other))
        for place in (-99, -10, 0, 3, 10, 500):
            self.same(height(ship, (), one.cargo, place), height(ship, (0,), other.cargo, place))


class Hidden(Case):
    def check(self, ship, rule, damages, number):
        """Whether the hold is hidden; what is returned is judged."""
        got = hidden_hold(ship, rule, [list(damage) for damage in damages], number)
        if got is None:
            return False
        self.same((type(got), len(got)), (tuple, 2))
        one, other = got
        self.same((number in one.lot, number in other.lot), (True, False))
        first, last = ship.ends
        for seen in got:
            self.assertIs(type(seen), Filling)
            for its in got:
                read = readings_of(ship, its.lot, its.cargo, (r(first), r(last), r(last + 5)))
                self.assertIsNone(filling_fault(ship, rule, damages, read, seen))
        self.assertEqual(posture_of(ship, one.lot, one.cargo), posture_of(ship, other.lot, other.cargo))
        self.assertIsNone(parting_place(ship, one, other))
        return True

    def test_the_example(self):
        self.same(self.check(one_hold(), RULE, DAMAGES, 0), True)
        self.same(self.check(one_hold(), Rule.at(point(40, 0)), DAMAGES, 0), False)
        self.same(self.check(one_hold(), box(20, 40, 0, 0), DAMAGES, 0), True)
        self.same(self.check(one_hold(), box(21, 41, 3, 3), DAMAGES, 0), False)
        self.same(self.check(one_hold(), RULE, ((0,),), 0), False)
        self.same(self.check(one_hold(), RULE, ((),), 0), False)

    def test_against_a_search_over_couples_of_rows(self):
        found = {}
        for ship in SHIPS + tuple(some_ships(162, 8)):
            lots = all_lots_of(len(ship))
            for rule in small_rules(ship):
                for damages in ((lots[1], lots[0]), (lots[-1], lots[0], lots[-1])):
                    for number in range(len(ship)):
                        wanted = is_hidden(ship, rule, damages, number)
                        self.same(self.check(ship, rule, damages, number), wanted)
                        found[wanted] = found.get(wanted, 0) + 1
        self.assertGreater(min(found.values()), 40)

    def test_a_hold_of_share_1_is_hidden(self):
        rows = [hold(-10, 0, 1, 1, 6), hold(0, 10, 1, "1/2", 6)]
        ship = Ship(rows, [r(3)], [(r(0), r(5))], (r(0), r(0)))
        rule = Rule.at(point(20, 0))
        self.same(self.check(ship, rule, ((), (0,)), 0), True)
        self.same(self.check(ship, rule, ((), (0,)), 1), False)
        self.same(self.check(ship, rule, ((), (1,)), 1), False)

    def test_lines_that_touch_at_one_cargo_alone(self):
        # Flooded with 20 she has the line of 40 dry, and no others of these cargoes do.
        ship = one_hold()
        rule = box(20, 40, 0, 0)
        got = hidden_hold(ship, rule, DAMAGES, 0)
        self.same([seen.cargo for seen in got], [point(20, 0), point(40, 0)])
        self.assertIsNone(hidden_hold(ship, box(20, Fraction(399, 10), 0, 0), DAMAGES, 0))

    def test_a_filling_whose_lot_tips_has_no_line(self):
        rule = box(0, 9, -9, 9)
        self.same([tips(tipping(1560), lot) for lot in ((), (0,), (0, 1, 2))], [False, False, True])
        self.assertIsNone(hidden_hold(tipping(1560), rule, ((), (0, 1, 2)), 0))
        self.same(self.check(tipping(1560), rule, ((), (0, 1, 2), (0,)), 0), True)

    def test_holds_flooded_in_every_row_and_in_none(self):
        for number, damages in ((0, ((0,), (0, 1))), (1, ((), (0,)))):
            self.same(self.check(two_holds(), box(0, 5, 0, 0), damages, number), False)

    def test_rows_of_floods(self):
        # Both ports are open with the weight 20: rows of the same damage, of unlike lots.
        self.same(self.check(rocker(), box(0, 60, -100, 100), ((),), 0), True)
        self.same(self.check(rocker(), box(0, 19, 0, 0), ((),), 0), False)

    def test_errors(self):
        for index, what, thing in NO_DAMAGES:
            self.refused(BadDamages, {"index": index, "what": what}, hidden_hold, three_holds(), LINE, thing, None)
        for thing in (*NO_WHOLES, -1, 3):
            self.refused(BadHold, {"hold": thing}, hidden_hold, three_holds(), LINE, ((),), thing)


if __name__ == "__main__":
    unittest.main()
