"""How floods, losses and verdicts of ships and rules belong together that are seen otherwise, split or turned."""
import unittest
from fractions import Fraction

from dryholds.areas import damage_shares, depth_shares, lost_share
from dryholds.charts import chart_of
from dryholds.compare import Alone, Covered, compare_losses, same_losses
from dryholds.errors import BadShip
from dryholds.fates import fate_of
from dryholds.fits import fitting_rows
from dryholds.floods import can_flood, open_edges
from dryholds.heights import highest_line
from dryholds.hidden import hidden_hold
from dryholds.limits import Limit, lightest_loss, top_limit
from dryholds.lotsfrom import ends_from, is_lost, lots_from
from dryholds.polygons import twice_area
from dryholds.postures import Tips
from dryholds.rays import bearing_of, deepening_of, least_factors
from dryholds.readings import Readings
from dryholds.rows import flood_rows
from dryholds.rules import parts_by
from dryholds.surely import possibly_flooded, surely_flooded
from dryholds.verdict import Safe, is_safe, is_safe_cargo, loss_of, verdict_of
from dryholds.wrongs import first_wrong, wrongs_of
from tests.helpers import Case, all_lots_of, f, half, r
from tests.test_rows import small_rules
from tests.walks import SHIPS, some_cargoes, some_ships


def turned(ship, cargo, by_weight, by_moment, shear=0):
    weight, moment = f(cargo[0]), f(cargo[1])
    return r(by_weight * weight), r(by_moment * moment + shear * weight)


def views(ship):
    """Rows of a ship seen otherwise, what becomes of a cargo, and what becomes of a rule; heights and holds stay."""
    rows = [(ship.shifted(by), (1, 1, by), by) for by in (-3, 8)] + [(ship.lengthened(by), (by, by * by, 0), None)
                                                                    for by in (2, 3)]
    for other, (by_weight, by_moment, shear), by in rows:
        def cargo_there(cargo, factors=(by_weight, by_moment, shear)):
            return turned(ship, cargo, *factors)

        def rule_there(rule, factors=(by_weight, by_moment, by)):
            if factors[2] is not None:
                return rule.sheared(r(factors[2]))
            return rule.scaled(r(factors[0]), r(factors[1]))
        yield other, cargo_there, rule_there

    def deep_cargo(cargo):
        return turned(ship, cargo, 4, 4)

    def deep_rule(rule):
        return rule.scaled(r(4), r(4))
    yield ship.deeper(4), deep_cargo, deep_rule


def back(ship, lot):
    """A lot counted from the other end."""
    return tuple(sorted(len(ship) - 1 - number for number in lot))


def back_edge(ship, edge):
    return (edge[0], len(ship) - 2 - edge[1]) if edge[0] == "bulkhead" else edge


def back_name(ship, name):
    if name[0] == "deck":
        return ("deck", len(ship) - 1 - name[1], 1 - name[2])
    return ("keel", 1 - name[1]) if name[0] == "keel" else name


def cases(seed, many=6, cargoes=4):
    for at, ship in enumerate(SHIPS + tuple(some_ships(seed, many))):
        for cargo in some_cargoes(ship, at, cargoes):
            yield ship, cargo


class Ships(Case):
    def test_floods_and_wrong_ends_at_corresponding_cargoes(self):
        for ship, cargo in cases(111):
            for other, cargo_there, _ in views(ship):
                there = cargo_there(cargo)
                for lot in all_lots_of(len(ship)):
                    self.same(can_flood(other, lot, there), can_flood(ship, lot, cargo))
                    self.same(first_wrong(other, lot, there), first_wrong(ship, lot, cargo))

    def test_losses_and_lots_at_corresponding_cargoes(self):
        lost = 0
        for ship, cargo in cases(112):
            damages = tuple(all_lots_of(len(ship))[:4])
            for other, cargo_there, _ in views(ship):
                there = cargo_there(cargo)
                mine, its = loss_of(ship, damages, cargo), loss_of(other, damages, there)
                self.same(its and (its.damage, its.floods, its.wrong), mine and (mine.damage, mine.floods, mine.wrong))
                self.same(is_safe_cargo(other, damages, there), is_safe_cargo(ship, damages, cargo))
                lost += mine is not None
                for damage in damages:
                    self.same(lots_from(other, damage, there), lots_from(ship, damage, cargo))
                    self.same(ends_from(other, damage, there), ends_from(ship, damage, cargo))
                    # Loads grow by one factor in all these ships, so the rays are the same.
                    self.same(least_factors(other, damage, there), least_factors(ship, damage, cargo))
                    self.assertEqual(bearing_of(other, damage, there), bearing_of(ship, damage, cargo))
        self.assertGreater(lost, 50)

    def test_verdicts_of_corresponding_rules(self):
        safe = 0
        for ship in SHIPS:
            damages = tuple(all_lots_of(len(ship))[:3])
            for rule in small_rules(ship):
                mine = verdict_of(ship, rule, damages)
                for other, cargo_there, rule_there in views(ship):
                    its = verdict_of(other, rule_there(rule), damages)
                    self.assertIs(type(its), type(mine))
                    safe += isinstance(its, Safe)
                    if not isinstance(its, Safe):
                        self.same((its.damage, its.floods, its.wrong), (mine.damage, mine.floods, mine.wrong))
                    there = list(flood_rows(other, rule_there(rule), (0,)))
                    here = list(flood_rows(ship, rule, (0,)))
                    self.same([row.floods for row in there], [row.floods for row in here])
                    self.assertEqual([set(row.corners) for row in there],
                                     [{cargo_there(corner) for corner in row.corners} for row in here])
        self.assertGreater(safe, 10)

    def test_the_mirrored_ship(self):
        for ship, cargo in cases(113):
            other, there = ship.mirrored(), turned(ship, cargo, 1, -1)
            for lot in all_lots_of(len(ship)):
                self.same(can_flood(other, back(ship, lot), there), back(ship, can_flood(ship, lot, cargo)))
                for number in range(len(ship)):
                    edges = open_edges(other, back(ship, lot), there, len(ship) - 1 - number)
                    wanted = [back_edge(ship, edge) for edge in open_edges(ship, lot, cargo, number)]
                    self.same(sorted(edges), sorted(wanted))
                wrong = {name for name, one in wrongs_of(other, back(ship, lot)) if one.holds_cargo(there)}
                mine = {back_name(ship, name) for name, one in wrongs_of(ship, lot) if one.holds_cargo(cargo)}
                self.assertEqual(wrong, mine)
                self.assertEqual(deepening_of(other, back(ship, lot), there), deepening_of(ship, lot, cargo))
                self.same(is_lost(other, back(ship, lot), there), is_lost(ship, lot, cargo))
                self.assertEqual(set(lots_from(other, back(ship, lot), there)),
                                 {back(ship, one) for one in lots_from(ship, lot, cargo)})
                self.assertEqual(bearing_of(other, back(ship, lot), there), bearing_of(ship, lot, cargo))

    def test_verdicts_of_the_mirrored_ship(self):
        for ship in SHIPS:
            damages = tuple(all_lots_of(len(ship))[:4])
            mirrored = tuple(back(ship, lot) for lot in damages)
            for rule in small_rules(ship):
                self.same(is_safe(ship.mirrored(), rule.mirrored(), mirrored), is_safe(ship, rule, damages))
                self.same(len(chart_of(ship.mirrored(), rule.mirrored(), mirrored)), len(chart_of(ship, rule, damages)))
                place = Fraction(ship.ends[0] + 1)
                here, there = [highest_line(one, law, lots, r(at)) for one, law, lots, at in (
                    (ship, rule, damages, place), (ship.mirrored(), rule.mirrored(), mirrored, -place))]
                self.assertIs(type(there), type(here))
                if not isinstance(here, Tips):
                    self.same(there.height, here.height)

    def test_deeper_ships_stand_higher(self):
        for ship in SHIPS:
            for rule in small_rules(ship):
                here = highest_line(ship, rule, ((0,),), r(2))
                there = highest_line(ship.deeper(4), rule.scaled(r(4), r(4)), ((0,),), r(2))
                self.assertIs(type(there), type(here))
                if not isinstance(here, Tips):
                    self.same((there.height, there.damage, there.floods), (r(4 * f(here.height)), (0,), here.floods))


def small_charts():
    """Ships, rules and damages with charts that are not too great."""
    for ship in SHIPS:
        damages = tuple(all_lots_of(len(ship))[:2])
        for rule in small_rules(ship)[2:]:
            if len(chart_of(ship, rule, damages)) <= 60:
                yield ship, rule, damages


def seen_at(ship, other, readings):
    """Readings of a ship as they are read of the same ship seen otherwise."""
    first, last = ship.ends
    its_first, its_last = other.ends
    rows = []
    # Places go from end to end alike; heights grow with the decks.
    deep = Fraction(f(other.holds[0][4]), f(ship.holds[0][4]))
    for place, low, high in readings:
        share = (f(place) - first) / (last - first)
        rows.append((r(its_first + share * (its_last - its_first)), r(f(low) * deep), r(f(high) * deep)))
    return Readings(rows)


class Charts(Case):
    def test_pieces_and_shares_of_corresponding_rules(self):
        for ship, rule, damages in small_charts():
            chart = chart_of(ship, rule, damages)
            for other, cargo_there, rule_there in views(ship):
                there = chart_of(other, rule_there(rule), damages)
                self.same([(piece.number, piece.damage, piece.floods, piece.wrong) for piece in there],
                          [(piece.number, piece.damage, piece.floods, piece.wrong) for piece in chart])
                self.assertEqual([set(piece.corners) for piece in there],
                                 [{cargo_there(corner) for corner in piece.corners} for piece in chart])
                if len(rule.corners) > 2:
                    self.same(depth_shares(there), depth_shares(chart))
                    self.same(damage_shares(there), damage_shares(chart))

    def test_the_mirrored_ship(self):
        for ship, rule, damages in small_charts():
            mirrored = tuple(back(ship, lot) for lot in damages)
            chart = chart_of(ship, rule, damages)
            there = chart_of(ship.mirrored(), rule.mirrored(), mirrored)
            if len(rule.corners) > 2:
                self.same(depth_shares(there), depth_shares(chart))
            for corner in [corner for piece in chart for corner in piece.corners]:
                self.same(there.damages_at(turned(ship, corner, 1, -1)), chart.damages_at(corner))

    def test_comparisons_of_corresponding_rules(self):
        kinds = set()
        for ship, rule, damages in small_charts():
            one, other = chart_of(ship, rule, damages[:1]), chart_of(ship, rule, damages[1:])
            for view, _, rule_there in views(ship):
                its = [chart_of(view, rule_there(rule), lots) for lots in (damages[:1], damages[1:])]
                kind = type(compare_losses(one, other))
                self.assertIs(type(compare_losses(*its)), kind)
                self.same(same_losses(*its), same_losses(one, other))
                kinds.add(kind)
        self.same(len(kinds), 2)

    def test_the_whole_ship_loses_no_more_than_the_split_one(self):
        more = 0
        for ship, rule, damages in small_charts():
            for number, (start, to, *_) in enumerate(ship.holds):
                if to - start > 1:
                    other = ship.split(number, start + 1)
                    cut = chart_of(other, rule, tuple(parted(lot, number) for lot in damages))
                    if len(cut) <= 60:
                        whole = chart_of(ship, rule, damages)
                        self.assertIs(type(compare_losses(whole, cut)), Covered)
                        more += isinstance(compare_losses(cut, whole), Alone)
        self.assertGreater(more, 0)

    def test_the_lost_areas_of_the_parts_of_a_rule_add_up(self):
        several = 0
        for ship, rule, damages in small_charts():
            if len(rule.corners) < 3:
                continue
            middle = f(rule.least_weight) + f(rule.greatest_weight)
            for line in (half(1, 0, middle / 2), half(0, -1, 1), half(2, 1, middle)):
                parts = [part for part in parts_by(rule, line) if part is not None and len(part.corners) > 2]
                lost = [f(twice_area(part.corners)) * f(lost_share(chart_of(ship, part, damages))) for part in parts]
                whole = f(twice_area(rule.corners)) * f(lost_share(chart_of(ship, rule, damages)))
                self.same(sum(lost), whole)
                several += len(parts) > 1
        self.assertGreater(several, 10)


class Readers(Case):
    def test_fits_fates_and_hidden_holds_of_corresponding_rules(self):
        fates = set()
        for ship, rule, damages in small_charts():
            first, last = ship.ends
            readings = Readings([(r(first), r(0), r(4)), (r(last), r(1, 2), r(5))])
            fits = fitting_rows(ship, rule, damages, readings)
            for other, cargo_there, rule_there in views(ship):
                law = rule_there(rule)
                its = fitting_rows(other, law, damages, seen_at(ship, other, readings))
                self.same([(fit.damage, fit.floods, fit.lot) for fit in its],
                          [(fit.damage, fit.floods, fit.lot) for fit in fits])
                self.assertEqual([set(fit.corners) for fit in its],
                                 [{cargo_there(corner) for corner in fit.corners} for fit in fits])
                if fits:
                    one, two = fate_of(ship, fits), fate_of(other, its)
                    self.same(getattr(two, "name", "unsure"), getattr(one, "name", "unsure"))
                    fates.add(getattr(one, "name", "unsure"))
                    self.same((surely_flooded(its), possibly_flooded(its)),
                              (surely_flooded(fits), possibly_flooded(fits)))
                for number in range(len(ship)):
                    self.same(hidden_hold(other, law, damages, number) is None,
                              hidden_hold(ship, rule, damages, number) is None)
        self.assertGreater(len(fates), 1)

    def test_hidden_holds_of_the_mirrored_ship(self):
        for ship, rule, damages in small_charts():
            mirrored = tuple(back(ship, lot) for lot in damages)
            for number in range(len(ship)):
                its = hidden_hold(ship.mirrored(), rule.mirrored(), mirrored, len(ship) - 1 - number)
                self.same(its is None, hidden_hold(ship, rule, damages, number) is None)


class Limits(Case):
    def test_limits_of_corresponding_rules(self):
        for ship, rule, damages in small_charts():
            mine = lightest_loss(ship, rule, damages)
            for other, cargo_there, rule_there in views(ship):
                its = lightest_loss(other, rule_there(rule), damages)
                wanted = mine and Limit(cargo_there((mine.value, r(0)))[0], mine.reached)
                self.assertEqual(its, wanted)
                deep = Fraction(f(other.holds[0][4]), f(ship.holds[0][4]))
                for bulkhead in range(len(ship.tops)):
                    if not any(beside == bulkhead for beside, _ in ship.doors):
                        here = top_limit(ship, rule, damages, bulkhead)
                        there = top_limit(other, rule_there(rule), damages, bulkhead)
                        self.assertIs(type(there), type(here))
                        if isinstance(here, Limit):
                            self.assertEqual(there, Limit(r(f(here.value) * deep), here.reached))


def parted(lot, number):
    """A lot in which both parts stand for the hold that was cut."""
    return tuple(at for hold in lot for at in ([hold, hold + 1] if hold == number else [hold + (hold > number)]))


class Splitting(Case):
    def test_if_the_split_ship_is_safe_so_is_the_whole_one(self):
        safe = 0
        for ship in SHIPS + tuple(some_ships(114, 10)):
            for number, (start, to, *_) in enumerate(ship.holds):
                if to - start < 2 or len(ship) > 5:
                    continue
                other = ship.split(number, start + 1)
                damages = tuple(all_lots_of(len(ship))[:5])
                for rule in small_rules(ship):
                    whole = is_safe(ship, rule, damages)
                    cut = is_safe(other, rule, tuple(parted(lot, number) for lot in damages))
                    self.assertLessEqual(cut, whole)
                    safe += cut
        self.assertGreater(safe, 20)

    def test_a_seventh_hold(self):
        ship = SHIPS[1].split(0, -15).split(0, -17)
        self.refused(BadShip, {"index": 0, "what": "many"}, ship.split, 5, 15)


class Rules(Case):
    def test_a_rule_is_safe_exactly_if_its_parts_are(self):
        several = 0
        for ship in SHIPS + tuple(some_ships(115, 6)):
            damages = tuple(all_lots_of(len(ship))[:3])
            for rule in small_rules(ship):
                weight = f(rule.least_weight) + f(rule.greatest_weight)
                for line in (half(1, 0, weight / 2), half(-1, 0, -weight / 3), half(0, 1, 1), half(1, 2, weight)):
                    parts = [part for part in parts_by(rule, line) if part is not None]
                    several += len(parts) == 2
                    self.same(is_safe(ship, rule, damages), all(is_safe(ship, part, damages) for part in parts))
        self.assertGreater(several, 50)

    def test_fewer_cargoes_and_fewer_damages_are_safer(self):
        for ship in SHIPS:
            damages = tuple(all_lots_of(len(ship))[:3])
            for rule in small_rules(ship):
                for damage in damages:
                    self.assertLessEqual(is_safe(ship, rule, damages), is_safe(ship, rule, (damage,)))
                less = rule.with_most(rule.least_weight)
                self.assertLessEqual(is_safe(ship, rule, damages), is_safe(ship, less, damages))


if __name__ == "__main__":
    unittest.main()
