import itertools
import unittest

from dryholds.errors import BadCargo, BadChange, BadDamages, TooMany
from dryholds.mends import Mends, Spoiler, find_mends, find_spoilers, good_for, mends_fault
from dryholds.rules import Rule
from dryholds.ship import Ship
from dryholds.treejudge import lost_fault, tree_fault
from dryholds.verdict import Lost, Safe, verdict_of
from tests.helpers import NO_SEQUENCES, Case, all_lots_of, f, four_holds, hold, one_hold, point, r, three_holds
from tests.test_changes import changed
from tests.test_damages import NO_DAMAGES
from tests.test_postures import NO_CARGOES
from tests.test_rows import LINE, small_rules
from tests.test_verdict import searched
from tests.walks import SHIPS, box, corners_and_more, first_lost_row, rocker, sieve, some_ships, two_holds

EXAMPLE = (four_holds(), Rule.at(point(80, 0)), ((3,),))
ORDERS = (("order", 3, 0), ("order", 3, 1))


def all_choices(many):
    return [choice for size in range(many + 1) for choice in itertools.combinations(range(many), size)]


def behind(case, pool, choice):
    return changed(*case, [pool[at] for at in choice])


def good_choices(case, pool):
    """All good choices, by a search of every row of floods behind every choice."""
    return [choice for choice in all_choices(len(pool)) if isinstance(searched(*behind(case, pool, choice)), int)]


def least_of_all(good):
    return [choice for choice in good if not any(set(other) < set(choice) for other in good)]


def pool_for(ship, rule, at):
    """A pool of up to five changes of many kinds."""
    pool = []
    if len(ship) > 1:
        pool += [("order", 0, len(ship) - 1), ("order", 1, 0)]
    for bulkhead, top in enumerate(ship.tops):
        deck = min(f(ship.holds[bulkhead][4]), f(ship.holds[bulkhead + 1][4]))
        if f(top) < deck:
            pool.append(("raise", bulkhead, r(deck)))
    pool += [("shut", "port", number) for number in range(len(ship.ports))]
    pool += [("shut", "door", number) for number in range(len(ship.doors))]
    pool = pool[at % 3:][:4] + [("lighter", r((f(rule.least_weight) * 2 + f(rule.greatest_weight)) / 3))]
    return tuple(pool)


def cases(seed, many):
    for at, ship in enumerate(SHIPS[:6] + tuple(some_ships(seed, many))):
        lots = all_lots_of(len(ship))
        for rule in small_rules(ship)[::3]:
            for damages in ((lots[0],), (lots[1], lots[2 % len(lots)])):
                yield (ship, rule, damages), pool_for(ship, rule, at)


class Classes(Case):
    def test_results_keep_what_they_are_given(self):
        least, losses, lost = [((), 1)], [((1,), 2)], [3]
        mends = Mends(least=least, losses=losses)
        self.assertTrue(mends.least is least and mends.losses is losses)
        spoiler = Spoiler(choice=lost, added=1, lost=lost)
        self.assertTrue(spoiler.choice is lost and spoiler.lost is lost)
        self.same(vars(spoiler), {"choice": [3], "added": 1, "lost": [3]})

    def test_choices_and_needed(self):
        for choices, needed in (((), ()), (((),), ()), (((0,),), (0,)), (((0, 2), (1, 2)), (2,)), (((0,), (1, 2)), ()),
                                (((0, 1, 3), (1, 2, 3), (1, 3, 4)), (1, 3))):
            mends = Mends(tuple((choice, None) for choice in choices), ())
            self.same((mends.choices, mends.needed), (choices, needed))


class Found(Case):
    def check(self, case, pool):
        """The Mends of a pool, once each of its pairs is looked at."""
        got = find_mends(*case, [list(change) for change in pool])
        self.assertIs(type(got), Mends)
        good = good_choices(case, pool)
        least = least_of_all(good)
        self.same(got.choices, tuple(least))
        self.same(got.needed, tuple(at for at in range(len(pool)) if least and all(at in one for one in least)))
        self.same((type(got.least), type(got.losses)), (tuple, tuple))
        self.same([choice for choice, _ in got.losses],
                  [choice for choice in all_choices(len(pool)) if not any(set(one) <= set(choice) for one in least)])
        for choice, safe in got.least:
            ship, rule, damages = behind(case, pool, choice)
            self.assertIs(type(safe), Safe)
            self.assertIsNone(tree_fault(ship, rule, damages, safe.trees))
        for choice, lost in got.losses:
            ship, rule, damages = behind(case, pool, choice)
            self.assertIs(type(lost), Lost)
            self.assertIsNone(lost_fault(ship, rule, damages, lost))
            self.assertIsNotNone(first_lost_row(ship, lost.damage, lost.cargo))
        for choice in good:
            self.assertTrue(set(got.needed) <= set(choice))
        self.assertIsNone(mends_fault(*case, pool, got))
        return got

    def test_the_example(self):
        got = self.check(EXAMPLE, ORDERS)
        self.same((got.choices, got.needed, [choice for choice, _ in got.losses]), (((0,),), (0,), [(), (1,)]))
        spoilers = find_spoilers(*EXAMPLE, ORDERS)
        self.same([(one.choice, one.added) for one in spoilers], [((0,), 1)])
        lost = spoilers[0].lost
        self.same((lost.damage, lost.floods), ((0, 1, 3), ((2, ("bulkhead", 1)),)))

    def test_against_a_search_over_all_choices(self):
        counts = {}
        for case, pool in (*cases(191, 3), *order_cases()):
            got = self.check(case, pool)
            counts[len(got.choices)] = counts.get(len(got.choices), 0) + 1
        self.assertTrue({0, 1, 3} <= set(counts))
        self.assertGreater(sum(counts.values()), 40)

    def test_the_greatest_pool_and_one_change(self):
        pool = (*ORDERS, ("raise", 2, r(3)), ("raise", 2, r("39/10")), ("lighter", r(76)))
        got = self.check(EXAMPLE[:1] + (box(70, 80, 0, 0),) + EXAMPLE[2:], pool)
        self.same(got.choices, ((0,), (2,), (3,), (4,)))
        self.same(len(all_choices(5)), 32)
        self.same(self.check(EXAMPLE, ORDERS[1:]).choices, ())

    def test_a_ship_that_is_safe_as_she_is(self):
        got = self.check((four_holds(), Rule.at(point(10, 0)), ((3,),)), ORDERS)
        self.same((got.choices, got.needed, got.losses), (((),), (), ()))

    def test_two_changes_that_are_needed_together(self):
        # Two ports, each of which lets the water in.
        ship = Ship([hold(-10, 10, 1, "1/2", 10)], [], [(r(0), r(4))], (r(0), r(0)), [],
                    [(0, r(-10), r(1)), (0, r(10), r(1))])
        pool = (("shut", "port", 0), ("lighter", r(45)), ("shut", "port", 1))
        got = self.check((ship, box(30, 60, 0, 0), ((),)), pool)
        self.same((got.choices, got.needed), (((0, 2),), (0, 2)))
        # Flooded, with the weight 40 she just stands at the mark.
        got = self.check((ship, box(30, 60, 0, 0), ((),)), (*pool, ("lighter", r(40))))
        self.same((got.choices, got.needed), (((3,), (0, 2)), ()))

    def test_equal_changes(self):
        got = self.check(EXAMPLE, (ORDERS[0], ORDERS[0], ORDERS[1]))
        self.same((got.choices, got.needed), (((0,), (1,)), ()))

    def test_too_many_rows_are_passed_on(self):
        rows = [hold(4 * at - 12, 4 * at - 8, 1, "1/2", 100) for at in range(6)]
        ports = [(at, r(4 * at - 10), r(0)) for at in (0, 2, 3, 5)]
        ship = Ship(rows, [r(0)] * 5, [(r(0), r(100))], (r(1), r(0)), [], ports)
        case = (ship, Rule.at(point(40, 0)), ((),))
        for call in (find_mends, find_spoilers):
            self.refused(TooMany, {"most": 3000}, call, *case, (("lighter", r(50)),))


def order_cases():
    """Ships with pools of many orders."""
    ships = [four_holds(), four_holds().mirrored(), four_holds().with_top(1, r(2)), four_holds().with_top(0, r(1))]
    pools = ((*ORDERS, ("order", 0, 3), ("order", 3, 2)), (("order", 1, 2), ("order", 1, 3), ("raise", 2, r(3))),
             (("order", 2, 1), ("order", 3, 0), ("order", 2, 0), ("order", 0, 2), ("lighter", r(79))))
    mixed = (ORDERS[0], ("raise", 2, r(3)), ("lighter", r(76)), ORDERS[1])
    yield (ships[0], box(70, 80, 0, 0), ((3,),)), mixed
    for ship in ships:
        for weight in (77, 80):
            for damages in (((3,),), ((1,), (0,)), ((2,),)):
                for pool in pools:
                    yield (ship, Rule.at(point(weight, 0)), damages), [
                        change for change in pool
                        if change[0] == "order" or change[0] == "lighter" and weight < 79
                        or change[0] == "raise" and f(ship.tops[change[1]]) < 3]


class Spoilers(Case):
    def test_against_a_search(self):
        found = 0
        for case, pool in (*cases(192, 3), *order_cases()):
            good = good_choices(case, pool)
            wanted = [(choice, added) for choice in least_of_all(good) for added in range(len(pool))
                      if added not in choice and tuple(sorted((*choice, added))) not in good]
            got = find_spoilers(*case, pool)
            self.assertIs(type(got), tuple)
            self.same([(one.choice, one.added) for one in got], wanted)
            for one in got:
                self.assertIs(type(one), Spoiler)
                self.same(pool[one.added][0], "order")
                ship, rule, damages = behind(case, pool, sorted((*one.choice, one.added)))
                self.assertIsNone(lost_fault(ship, rule, damages, one.lost))
            found += len(got)
        self.assertGreater(found, 3)

    def test_none_without_orders(self):
        self.same(find_spoilers(*EXAMPLE, (("raise", 2, r(3)), ("lighter", r(80)))), ())


class GoodFor(Case):
    def test_against_single_verdicts(self):
        kinds = {}
        for case, pool in cases(193, 5):
            ship, rule, _ = case
            for cargo in corners_and_more(rule)[:3] + [(r(f(rule.greatest_weight) * 2), r(1))]:
                wanted = []
                for choice in all_choices(len(pool)):
                    heavy = any(change[0] == "lighter" and f(cargo[0]) > f(change[1])
                                for change in [pool[at] for at in choice])
                    other, _, damages = behind(case, pool, choice)
                    if heavy or not any(first_lost_row(other, damage, cargo) for damage in damages):
                        wanted.append(choice)
                self.same(good_for(*case, pool, list(cargo)), tuple(wanted))
                kinds[min(len(wanted), 1) + (len(wanted) == 2 ** len(pool))] = True
        self.assertEqual(set(kinds), {0, 1, 2} if 0 in kinds else {1, 2})

    def test_a_choice_is_good_exactly_if_it_is_good_for_every_cargo(self):
        for case, pool in cases(194, 1):
            good = good_choices(case, pool)
            each = [set(good_for(*case, pool, cargo)) for cargo in corners_and_more(case[1])[:8]]
            for choice in all_choices(len(pool)):
                if choice in good:
                    self.assertTrue(all(choice in those for those in each))
                else:
                    ship, rule, damages = behind(case, pool, choice)
                    lost = verdict_of(ship, rule, damages)
                    self.assertNotIn(choice, good_for(*case, pool, lost.cargo))

    def test_the_example(self):
        self.same(good_for(*EXAMPLE, ORDERS, point(80, 0)), ((0,),))
        self.same(good_for(*EXAMPLE, ORDERS, point(1, 0)), ((), (0,), (1,), (0, 1)))
        # Just as heavy as a lighter allows, and a bit heavier.
        pool = (("lighter", r(80)),)
        self.same(good_for(*EXAMPLE, pool, point(80, 0)), ())
        self.same(good_for(*EXAMPLE, pool, point("801/10", 0)), ((0,),))

    def test_it_need_not_be_a_cargo_of_the_rule(self):
        self.same(good_for(*EXAMPLE, ORDERS, point(2000, 0)), ())
        self.same(good_for(one_hold(), Rule.at(point(1, 0)), ((0,),), (("lighter", r(5)),), point(50, 0)), ((0,),))


class Judge(Case):
    CASE = (four_holds(), box(60, 80, 0, 0), ((3,),))
    POOL = (*ORDERS, ("raise", 2, r(3)), ("lighter", r(78)))

    def fault(self, least, losses):
        return mends_fault(*self.CASE, self.POOL, Mends(least, losses))

    def right(self):
        mends = find_mends(*self.CASE, self.POOL)
        return mends.least, mends.losses

    def test_right_ones(self):
        least, losses = self.right()
        self.assertIsNone(self.fault(least, losses))
        self.same([choice for choice, _ in least], [(0,), (2,)])
        self.same([choice for choice, _ in losses], [(), (1,), (3,), (1, 3)])

    def test_order(self):
        least, losses = self.right()
        for pairs in (None, list(least), 7, least[::-1], least + least[:1], (least[0], least[0]), (None,), least[0],
                      (((0,),),), (((0,), least[0][1], 1),), (((9,), None),), (((True,), None),), (((False,), None),),
                      (((1, 0), None),), (([0], None),), ((0, None),), (("0", None),), ((None, None),)):
            self.same(self.fault(pairs, losses), "order")
        for pairs in (None, list(losses), losses[::-1], losses + losses[-1:], (((0, 0), None),), (((4,), None),)):
            self.same(self.fault(least, pairs), "order")

    def test_within(self):
        least, losses = self.right()
        more = ((0, 1), least[0][1])
        self.same(self.fault((*least, more), losses), "within")
        self.same(self.fault(least, (*losses[:3], more, *losses[3:])), "within")
        self.same(self.fault(least, (losses[0], ((0,), losses[0][1]), *losses[1:])), "within")
        self.same(self.fault(((((), None)), *least), losses), "within")

    def test_lacking(self):
        least, losses = self.right()
        for at in range(len(losses)):
            self.same(self.fault(least, losses[:at] + losses[at + 1:]), "lacking")
        self.same(self.fault(least[:1], losses), "lacking")
        self.same(self.fault((), losses), "lacking")
        self.same(self.fault((), ()), "lacking")

    def test_safe(self):
        least, losses = self.right()
        for thing in (None, losses[0][1], Safe(()), Safe(None), Safe(least[1][1].trees * 2), least[0][1].trees,
                      verdict_of(one_hold(), LINE, ((),))):
            self.same(self.fault((((0,), thing), least[1]), losses), "safe")
            self.same(self.fault((least[0], ((2,), thing)), losses), "safe")
        # The trees of one choice do not show that another one is good.
        self.same(self.fault((((0,), least[1][1]), least[1]), losses), "safe")

    def test_lost(self):
        least, losses = self.right()
        for at, (choice, lost) in enumerate(losses):
            for thing in (None, least[0][1], Lost(point(81, 0), lost.damage, lost.floods, lost.wrong),
                          Lost(lost.cargo, (2,), lost.floods, lost.wrong), Lost(lost.cargo, lost.damage, (), ("tips",)),
                          Lost(point(70, 0), lost.damage, lost.floods, lost.wrong)):
                pairs = losses[:at] + ((choice, thing),) + losses[at + 1:]
                self.same(self.fault(least, pairs), "lost")
        # Any right Lost is let: another cargo of the rule that is lost, too.
        self.assertIsNone(self.fault(least, ((losses[0][0], Lost(point("799/10", 0), (3,), losses[0][1].floods,
                                                                 ("mark", 1))), *losses[1:])))

    def test_each_word_is_looked_for_in_all_pairs_before_the_next(self):
        least, losses = self.right()
        self.same(self.fault((((0,), None), ((0, 1), None)), None), "order")
        self.same(self.fault((((0,), None), ((0, 1), None)), ()), "within")
        self.same(self.fault((((0,), None), ((2,), None)), ()), "lacking")
        self.same(self.fault((((0,), None), least[1]), ((losses[0][0], None), *losses[1:])), "safe")
        self.same(self.fault((least[0], ((2,), None)), ((losses[0][0], None), *losses[1:])), "safe")

    def test_a_good_choice_is_not_lost(self):
        least, losses = self.right()
        told = []
        for choice in all_choices(4):
            if 2 not in choice:
                verdict = verdict_of(*behind(self.CASE, self.POOL, choice))
                told.append((choice, losses[0][1] if isinstance(verdict, Safe) else verdict))
        self.same(self.fault(least[1:], tuple(told)), "lost")


class Errors(Case):
    CALLS = ((find_mends, ()), (find_spoilers, ()), (mends_fault, (None,)), (good_for, (None,)))

    def test_in_their_order(self):
        for call, more in self.CALLS:
            for index, what, thing in NO_DAMAGES:
                self.refused(BadDamages, {"index": index, "what": what}, call, three_holds(), LINE, thing, None, *more)
            for thing in (*NO_SEQUENCES, (), [], [ORDERS[0]] * 6, [None] * 6):
                self.refused(BadChange, {"index": 0, "what": "pool"}, call, *EXAMPLE, thing, *more)
            for what, change in (("change", None), ("hold", ("order", 0, 4)), ("bulkhead", ("raise", 3, r(3))),
                                 ("top", ("raise", 0, r("27/10"))), ("number", ("shut", "door", 0)),
                                 ("weight", ("lighter", r(79)))):
                self.refused(BadChange, {"index": 0, "what": what}, call, *EXAMPLE, (change,), *more)
                self.refused(BadChange, {"index": 4, "what": what}, call, *EXAMPLE, [*ORDERS * 2, change], *more)
        for what, thing in NO_CARGOES:
            self.refused(BadCargo, {"what": what}, good_for, *EXAMPLE, ORDERS, thing)

    def test_pools_of_ships_with_doors_and_ports(self):
        for ship in (sieve(), rocker(), two_holds()):
            for number in range(-1, 5):
                pool = (("shut", "port", number),)
                if 0 <= number < len(ship.ports):
                    self.assertIs(type(find_mends(ship, LINE, ((),), pool)), Mends)
                else:
                    self.refused(BadChange, {"index": 0, "what": "number"}, find_mends, ship, LINE, ((),), pool)


if __name__ == "__main__":
    unittest.main()
