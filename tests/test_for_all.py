"""What the document promises FOR ALL and FOR EVERY, each once more over small ships, with all modules together."""
import itertools
import random
import unittest
from fractions import Fraction

from dryholds.areas import damage_shares, depth_shares, lost_share, safe_polygons, safe_share
from dryholds.boxes import Boxes, cargo_when, overfull_at
from dryholds.cells import Cell, cell_of, cells_left
from dryholds.changes import apply_changes, is_tame
from dryholds.charts import chart_of
from dryholds.common import Point, find_common
from dryholds.compare import Covered, compare_losses
from dryholds.comparejudge import cover_fault
from dryholds.fates import Fate, fate_of
from dryholds.fits import Filling, filling_fault, fitting_rows
from dryholds.floods import can_flood
from dryholds.forks import Fork, meeting_fault, meeting_of
from dryholds.hidden import hidden_hold, parting_place
from dryholds.lading import Lading, lading_order, ladings_count, order_fault, stuck_fault
from dryholds.limits import Limit, Sunk, lightest_loss, top_limit
from dryholds.log import Log
from dryholds.losttext import lost_text, parse_lost
from dryholds.lots import lot_with
from dryholds.lotsfrom import ends_from, has_one_end, is_lost, lots_from
from dryholds.mends import find_mends, find_spoilers, good_for, mends_fault
from dryholds.moves import Moves, moves_between, moves_fault
from dryholds.polygons import covers_cargo, mean_of
from dryholds.postures import Tips, does_tip, height_at, posture_of
from dryholds.rays import bearing_of, cargo_at, deepening_of, load_of
from dryholds.readings import Readings, readings_of
from dryholds.restings import OneEnd, decide_ends, decided_fault
from dryholds.rows import flood_rows
from dryholds.rules import Rule, moments_within, rule_of
from dryholds.slots import Slots, moments_at, stowage_fault, stowage_for
from dryholds.surely import height_range, moment_range, possibly_flooded, surely_flooded, two_fillings, weight_range
from dryholds.treejudge import lost_fault, tree_fault
from dryholds.verdict import Safe, is_safe, is_safe_cargo, loss_of, verdict_of
from tests.helpers import Case, f, four_holds, one_hold, point, r, rs
from tests.slices import corners_area, fractions_of
from tests.test_lading import beam
from tests.test_log import outcome
from tests.test_mends import all_choices
from tests.walks import corners_and_more, rocker, some_ships, tipping, two_holds

SHIPS = (one_hold(), two_holds(), rocker(), four_holds(), tipping(1560), *some_ships(301, 3))


def small_cases():
    """Ships with slots, the rule of the slots, and damages."""
    for ship in SHIPS:
        first, last = ship.ends
        area = sum(breadth * (to - start) for start, to, breadth, _, _ in ship.holds)
        places = (r(first + 1), r(first + last, 2), r(last - 1))
        slots = Slots([(place, r(area * many)) for place, many in zip(places, (2, 3, 1))], r(area * 5))
        for damages in (((),), ((0,), ())):
            yield ship, slots, rule_of(slots), damages


def cargoes_of(rule, many=6):
    return corners_and_more(rule)[::3][:many]


def pool_of(ship, rule):
    """Up to three changes: orders, a raise, what can be shut, a lighter."""
    pool = [("order", 0, 1)] if len(ship) > 1 else []
    for at, top in enumerate(ship.tops[:1]):
        deck = min(f(ship.holds[at][4]), f(ship.holds[at + 1][4]))
        if f(top) < deck:
            pool.append(("raise", at, r(deck)))
    pool += [("shut", "port", 0)] if ship.ports else []
    return tuple(pool[:2]) + (("lighter", r(f(rule.greatest_weight) / 3)),)


class Cargoes(Case):
    def test_3_6_stowages(self):
        for _, slots, rule, _ in small_cases():
            for part in (0, Fraction(1, 3), Fraction(4, 5), 1):
                weight = r(f(slots.total) * part)
                least, greatest = moments_at(slots, weight)
                self.same(moments_within(rule, weight), (least, greatest))
                for moment in (f(least) - 1, f(least), (f(least) + f(greatest)) / 2, f(greatest), f(greatest) + 1):
                    cargo = (weight, r(moment))
                    stowage = stowage_for(slots, cargo)
                    self.same(stowage is not None, f(least) <= moment <= f(greatest))
                    self.same(cargo in rule, stowage is not None)
                    self.same(cargo in rule, covers_cargo(rule.corners, cargo))
                    if stowage is not None:
                        self.assertIsNone(stowage_fault(slots, stowage, cargo))

    def test_5_6_several_ends(self):
        for ship, _, rule, damages in small_cases():
            for cargo in cargoes_of(rule):
                for damage in damages:
                    met = meeting_of(ship, damage, cargo)
                    self.same(has_one_end(ship, damage, cargo), not isinstance(met, Fork))
                    self.assertIsNone(meeting_fault(ship, damage, cargo, met))

    def test_5_7_greater_lots_lie_deeper(self):
        for ship, _, rule, damages in small_cases():
            for cargo in cargoes_of(rule):
                for lot in lots_from(ship, damages[0], cargo):
                    for hold in range(len(ship)):
                        if hold in lot or does_tip(ship, lot_with(ship, lot, hold)):
                            continue
                        one = f(deepening_of(ship, lot, cargo))
                        other = f(deepening_of(ship, lot_with(ship, lot, hold), cargo))
                        some = ship.holds[hold][3] != r(1) and load_of(ship, cargo) != point(0, 0)
                        self.same((one <= other, one < other), (True, some))

    def test_5_8_greater_loads_flood_and_lose_no_less(self):
        for ship, _, rule, damages in small_cases():
            for cargo in cargoes_of(rule):
                for damage in damages:
                    more = cargo_at(ship, cargo, r("5/4"))
                    if f(more[0]) < 0:
                        continue
                    self.assertTrue(set(lots_from(ship, damage, cargo)) <= set(lots_from(ship, damage, more)))
                    for lot in lots_from(ship, damage, cargo):
                        self.assertTrue(set(can_flood(ship, lot, cargo)) <= set(can_flood(ship, lot, more)))
                    self.assertLessEqual(is_lost(ship, damage, cargo), is_lost(ship, damage, more))
                    bearing = bearing_of(ship, damage, cargo)
                    lost = bearing is not None and (f(bearing.factor) < 1 or f(bearing.factor) == 1 and bearing.reached)
                    self.same(is_lost(ship, damage, cargo), lost)

    def test_5_9_one_end_for_all_cargoes(self):
        for ship, _, rule, damages in small_cases():
            if sum(len(list(flood_rows(ship, rule, damage))) for damage in damages) > 40:
                continue
            decided = decide_ends(ship, rule, damages)
            self.assertIsNone(decided_fault(ship, rule, damages, decided))
            if isinstance(decided, OneEnd):
                for cargo in cargoes_of(rule):
                    self.assertTrue(all(has_one_end(ship, damage, cargo) for damage in damages))
            else:
                self.assertGreater(len(ends_from(ship, decided.damage, decided.cargo)), 1)


class Charts(Case):
    def test_7_1_the_mean_of_a_cell_is_in_it(self):
        for ship, _, rule, damages in small_cases():
            for piece in chart_of(ship, rule, damages).pieces[:6]:
                cell = cell_of(piece.halves)
                self.same(cell.mean, mean_of(piece.corners))
                self.assertTrue(cell.mean in cell and cell.mean in piece)
                self.assertTrue(isinstance(find_common(piece.halves), Point))
                for half in piece.halves:
                    self.same(cell.within(half.opposite()) is None, True)

    def test_7_2_each_couple_is_in_exactly_one_cell(self):
        for ship, _, rule, damages in small_cases():
            chart = chart_of(ship, rule, damages)
            whole = cell_of(rule.halves)
            groups = [piece.halves for piece in chart.pieces][:8]
            left = cells_left([whole], groups)
            for cargo in cargoes_of(rule, 12):
                inside = any(all(half.holds_cargo(cargo) for half in group) for group in groups)
                self.same(sum(cargo in cell for cell in left), 0 if inside else 1)
                for group in groups[:2]:
                    beyond = whole.beyond(group)
                    lies = all(half.holds_cargo(cargo) for half in group)
                    self.same(sum(cargo in cell for cell in beyond), 0 if lies else 1)
            self.assertTrue(all(type(cell) is Cell and cell.mean in cell for cell in left))

    def test_7_4_lost_exactly_in_the_pieces(self):
        for ship, _, rule, damages in small_cases():
            chart = chart_of(ship, rule, damages)
            verdict = verdict_of(ship, rule, damages)
            self.same(chart.is_safe, isinstance(verdict, Safe))
            if isinstance(verdict, Safe):
                self.assertIsNone(tree_fault(ship, rule, damages, verdict.trees))
            else:
                self.assertIsNone(lost_fault(ship, rule, damages, verdict))
                self.same(vars(parse_lost(lost_text(verdict))), vars(verdict))
                self.assertTrue(chart.loses(verdict.cargo))
            for cargo in cargoes_of(rule):
                self.same(chart.damages_at(cargo),
                          tuple(at for at, damage in enumerate(damages) if is_lost(ship, damage, cargo)))
                self.same(chart.loses(cargo), not is_safe_cargo(ship, damages, cargo))
                self.same(loss_of(ship, damages, cargo) is None, is_safe_cargo(ship, damages, cargo))

    def test_7_5_shares_add_up(self):
        for ship, _, rule, damages in small_cases():
            chart = chart_of(ship, rule, damages)
            depths = [f(share) for share in depth_shares(chart)]
            self.same((sum(depths), depths[0]), (Fraction(1), f(safe_share(chart))))
            self.same(sum(at * share for at, share in enumerate(depths)),
                      sum((f(share) for share in damage_shares(chart)), Fraction(0)))
            safe = sum((corners_area(fractions_of(one)) for one in safe_polygons(chart)), Fraction(0))
            self.same(safe / corners_area(fractions_of(rule.corners)), 1 - f(lost_share(chart)))
            for polygon in safe_polygons(chart):
                self.assertTrue(is_safe_cargo(ship, damages, mean_of(polygon)))

    def test_7_7_what_covers_what(self):
        for ship, _, rule, damages in small_cases():
            chart = chart_of(ship, rule, damages)
            if len(chart) > 60:
                continue
            others = [chart_of(ship, rule, damages[:1])]
            others += [chart_of(ship.without_port(at), rule, damages) for at in range(len(ship.ports))]
            others += [chart_of(ship.without_door(at), rule, damages) for at in range(len(ship.doors))]
            for at in range(len(ship.tops)):
                deck = min(f(ship.holds[at][4]), f(ship.holds[at + 1][4]))
                others.append(chart_of(ship.with_top(at, r(deck)), rule, damages))
            for other in others:
                got = compare_losses(other, chart)
                self.assertIs(type(got), Covered)
                self.assertIsNone(cover_fault(other, chart, got))
                self.assertLessEqual(f(lost_share(other)), f(lost_share(chart)))


class Readers(Case):
    def cases(self):
        """Ships, rules, damages, readings and fits, with a filling that shows them."""
        for ship, _, rule, damages in small_cases():
            first, last = ship.ends
            for cargo in cargoes_of(rule, 3):
                row = [row for row in flood_rows(ship, Rule.at(cargo), damages[0])][-1]
                read = readings_of(ship, row.lot, cargo, (r(first), r(last + 1)))
                if isinstance(read, Tips):
                    continue
                wide = Readings([(place, r(f(low) - 1), r(f(high) + 1)) for place, low, high in read])
                filling = Filling(damages[0], row.floods, row.lot, cargo)
                for readings in (read, wide):
                    yield ship, rule, damages, readings, fitting_rows(ship, rule, damages, readings), filling

    def test_8_2_a_filling_shows_readings_exactly_if_it_is_in_its_fit(self):
        for ship, rule, damages, readings, fits, filling in self.cases():
            self.assertIsNone(filling_fault(ship, rule, damages, readings, filling))
            for cargo in [filling.cargo] + cargoes_of(rule, 4):
                seen = Filling(filling.damage, filling.floods, filling.lot, cargo)
                those = [fit for fit in fits if (fit.damage, fit.floods) == (seen.damage, seen.floods)]
                self.same(filling_fault(ship, rule, damages, readings, seen) is None,
                          any(cargo in fit for fit in those))

    def test_8_3_further_rows_and_sure_rows(self):
        for ship, rule, damages, readings, fits, filling in self.cases():
            self.assertTrue(set(surely_flooded(fits)) <= set(filling.lot) <= set(possibly_flooded(fits)))
            weights, moments = weight_range(fits), moment_range(fits)
            self.assertTrue(f(weights[0]) <= f(filling.cargo[0]) <= f(weights[1]))
            self.assertTrue(f(moments[0]) <= f(filling.cargo[1]) <= f(moments[1]))
            height = f(height_at(posture_of(ship, filling.lot, filling.cargo), r(2)))
            low, high = height_range(ship, fits, r(2))
            self.assertTrue(f(low) <= height <= f(high))
            if readings.rows[0][1] == readings.rows[0][2]:
                self.assertTrue(all(len(fit.corners) == 1 for fit in fits))
            more = fitting_rows(ship, rule, damages, readings.with_row(*rs("1/2", 0, 3)))
            told = {(fit.damage, fit.floods) for fit in fits}
            self.assertTrue({(fit.damage, fit.floods) for fit in more} <= told)
            for hold in range(len(ship)):
                both = two_fillings(fits, hold)
                sure = hold in surely_flooded(fits) or hold not in possibly_flooded(fits)
                self.same(both is None, sure)

    def test_8_4_hidden_holds(self):
        found = {True: 0, False: 0}
        for ship, _, rule, damages in small_cases():
            first, last = ship.ends
            for hold in range(len(ship)):
                got = hidden_hold(ship, rule, damages, hold)
                found[got is None] += 1
                if got is not None:
                    self.assertIsNone(parting_place(ship, *got))
                    for place in (first - 5, 0, last):
                        self.same(*[height_at(posture_of(ship, one.lot, one.cargo), r(place)) for one in got])
                    read = readings_of(ship, got[0].lot, got[0].cargo, rs(first, last))
                    fits = fitting_rows(ship, rule, damages, read)
                    self.assertIsNotNone(two_fillings(fits, hold))
        for ship, rule, damages, readings, fits, filling in self.cases():
            if readings.rows[0][1] == readings.rows[0][2]:
                for hold in range(len(ship)):
                    # Sure rows tell the line, so only a hidden hold leaves both.
                    if two_fillings(fits, hold) is not None:
                        self.assertIsNotNone(hidden_hold(ship, rule, damages, hold))
        self.assertGreater(min(found.values()), 3)

    def test_8_5_fates(self):
        for ship, _, _, _, fits, filling in self.cases():
            got = fate_of(ship, fits)
            lost = is_lost(ship, filling.lot, filling.cargo)
            if isinstance(got, Fate):
                self.same(got.name, "lost" if lost else "safe")
            else:
                self.same([is_lost(ship, one.lot, one.cargo) for one in (got.safe, got.lost)], [False, True])


class Changes(Case):
    def test_9_5_tame_changes_lose_nothing(self):
        for ship, _, rule, damages in small_cases():
            tame = [change for change in pool_of(ship, rule) if is_tame(change)]
            other, less, lots = apply_changes(ship, rule, damages, tame)
            for cargo in cargoes_of(less):
                self.assertLessEqual(is_safe_cargo(ship, damages, cargo), is_safe_cargo(other, lots, cargo))
            self.assertLessEqual(is_safe(ship, rule, damages), is_safe(other, less, lots))

    def test_9_8_to_9_11_mends(self):
        for ship, _, rule, damages in small_cases():
            pool = pool_of(ship, rule)
            mends = find_mends(ship, rule, damages, pool)
            self.assertIsNone(mends_fault(ship, rule, damages, pool, mends))
            behind = {choice: apply_changes(ship, rule, damages, [pool[at] for at in choice])
                      for choice in all_choices(len(pool))}
            good = [choice for choice in behind if is_safe(*behind[choice])]
            self.assertTrue(all(set(mends.needed) <= set(choice) for choice in good))
            self.same(mends.choices, tuple(choice for choice in good if not any(
                set(other) < set(choice) for other in good)))
            for spoiler in find_spoilers(ship, rule, damages, pool):
                self.same(pool[spoiler.added][0], "order")
                more = tuple(sorted((*spoiler.choice, spoiler.added)))
                self.assertIsNone(lost_fault(*behind[more], spoiler.lost))
            each = {cargo: good_for(ship, rule, damages, pool, cargo) for cargo in cargoes_of(rule, 4)}
            for choice in behind:
                if choice in good:
                    self.assertTrue(all(choice in those for those in each.values()))
                else:
                    cargo = verdict_of(*behind[choice]).cargo
                    self.assertNotIn(choice, good_for(ship, rule, damages, pool, cargo))

    def test_9_12_the_lightest_loss(self):
        for ship, _, rule, damages in small_cases():
            limit = lightest_loss(ship, rule, damages)
            self.same(limit is None, is_safe(ship, rule, damages))
            value = None if limit is None else f(limit.value)
            tried = [f(rule.greatest_weight) / at for at in (1, 2, 5)] + [f(rule.least_weight)]
            for most in tried + ([] if value is None else [value, value + Fraction(1, 999), value * Fraction(99, 100)]):
                behind = apply_changes(ship, rule, damages, (("lighter", r(most)),))
                wanted = limit is None or most < value or most == value and not limit.reached
                self.same(is_safe(*behind), wanted)

    def test_9_13_how_high_a_top_must_be(self):
        for ship, _, rule, damages in small_cases():
            for bulkhead in range(len(ship.tops)):
                if any(beside == bulkhead for beside, _ in ship.doors):
                    continue
                limit = top_limit(ship, rule, damages, bulkhead)
                deck = min(f(ship.holds[bulkhead][4]), f(ship.holds[bulkhead + 1][4]))
                tops = [Fraction(0), deck / 3, f(ship.tops[bulkhead]), deck]
                if isinstance(limit, Limit):
                    tops += [f(limit.value), (f(limit.value) + deck) / 2]
                for top in tops:
                    wanted = limit is None or isinstance(limit, Limit) and (
                        top > f(limit.value) or top == f(limit.value) and not limit.reached)
                    if top <= deck:
                        self.same(is_safe(ship.with_top(bulkhead, r(top)), rule, damages), wanted)
                if isinstance(limit, Sunk):
                    self.assertIsNone(lost_fault(ship, rule, damages, limit.lost))


class Ladings(Case):
    def cases(self):
        for ship, slots, rule, damages in small_cases():
            rows = [(at % 3, r(f(slots.rows[at % 3][1]) / 9)) for at in range(3)]
            yield ship, damages, Boxes(slots, rows)
        for rows in (((0, 2), (1, 2), (2, 3)), ((0, 2), (1, 2), (2, 10)), ((0, 1), (2, 5), (1, 1))):
            yield one_hold(), ((), (0,)), beam(rows)

    def test_10_6_a_lading_or_a_set_that_cannot_be_left(self):
        found = set()
        for ship, damages, boxes in self.cases():
            got = lading_order(ship, damages, boxes)
            found.add(type(got))
            if isinstance(got, Lading):
                self.assertIsNone(order_fault(ship, damages, boxes, got.order))
                every = all_choices(len(boxes))
                for size in (0, 1, 2, 5, 8):
                    for batches in itertools.islice(itertools.combinations(every, size), 12):
                        self.assertIsNotNone(stuck_fault(ship, damages, boxes, batches))
            else:
                self.assertIsNone(stuck_fault(ship, damages, boxes, got.batches))
                for order in itertools.permutations(range(len(boxes))):
                    self.assertIsNotNone(order_fault(ship, damages, boxes, order))
        self.same(len(found), 2)

    def test_10_10_moves_lead_back(self):
        for ship, damages, boxes in self.cases():
            every = [batch for batch in all_choices(len(boxes)) if overfull_at(boxes, batch) is None
                     and is_safe_cargo(ship, damages, cargo_when(boxes, batch))]
            for one, other in itertools.product(every[:4], every[-3:]):
                there = moves_between(ship, damages, boxes, one, other)
                back = moves_between(ship, damages, boxes, other, one)
                self.assertIs(type(there), type(back))
                if isinstance(there, Moves):
                    self.same(len(there.deeds), len(back.deeds))
                    turned = [("unload" if word == "load" else "load", number) for word, number in there.deeds[::-1]]
                    self.assertIsNone(moves_fault(ship, damages, boxes, other, one, turned))
            if is_safe(ship, rule_of(boxes.slots), damages) and all(
                    overfull_at(boxes, batch) is None for batch in all_choices(len(boxes))):
                self.same(ladings_count(ship, damages, boxes), 6)
            got = lading_order(ship, damages, boxes)
            if isinstance(got, Lading):
                full = tuple(range(len(boxes)))
                self.same(len(moves_between(ship, damages, boxes, (), full).deeds), len(boxes))
                log = Log.played(ship, damages, boxes, [("load", number) for number in got.order])
                self.same(log.aboard, full)

    def test_10_13_a_log_is_equal_to_the_log_played_anew(self):
        chance = random.Random(302)
        for ship, damages, boxes in self.cases():
            if is_safe_cargo(ship, damages, point(0, 0)):
                log = Log(ship, damages, boxes)
                for _ in range(10):
                    outcome(chance.choice((log.load, log.unload)), chance.randrange(3))
                outcome(log.take_back, 0)
                self.assertTrue(Log.played(ship, damages, boxes, log.deeds) == log)


if __name__ == "__main__":
    unittest.main()
