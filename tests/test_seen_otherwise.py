"""How floods, losses and verdicts of ships and rules belong together that are seen otherwise, split or turned."""
import unittest
from fractions import Fraction

from dryholds.charts import chart_of
from dryholds.errors import BadShip
from dryholds.floods import can_flood, open_edges
from dryholds.heights import highest_line
from dryholds.lotsfrom import ends_from, is_lost, lots_from
from dryholds.postures import Tips
from dryholds.rays import bearing_of, deepening_of, least_factors
from dryholds.rows import flood_rows
from dryholds.rules import parts_by
from dryholds.verdict import Safe, is_safe, is_safe_cargo, loss_of, verdict_of
from dryholds.wrongs import first_wrong, wrongs_of
from tests.helpers import Case, all_lots_of, f, half, r
from tests.test_rows import small_rules
from tests.walks import SHIPS, some_cargoes, some_ships


def turned(ship, cargo, by_weight, by_moment, shear=0):
    weight, moment = f(cargo[0]), f(cargo[1])
    return r(by_weight * weight), r(by_moment * moment + shear * weight)


def views(ship):
    """Rows of a ship seen otherwise, what becomes of a cargo, and what becomes of a rule; heights and holds stay."""
    rows = [(ship.shifted(by), (1, 1, by), by) for by in (-3, 8)] + [(ship.lengthened(by), (by, by * by, 0), None)
                                                                    for by in (2, 3)]
    for other, (by_weight, by_moment, shear), by in rows:
        def cargo_there(cargo, factors=(by_weight, by_moment, shear)):
            return turned(ship, cargo, *factors)

        def rule_there(rule, factors=(by_weight, by_moment, by)):
            if factors[2] is not None:
                return rule.sheared(r(factors[2]))
            return rule.scaled(r(factors[0]), r(factors[1]))
        yield other, cargo_there, rule_there

    def deep_cargo(cargo):
        return turned(ship, cargo, 4, 4)

    def deep_rule(rule):
        return rule.scaled(r(4), r(4))
    yield ship.deeper(4), deep_cargo, deep_rule


def back(ship, lot):
    """A lot counted from the other end."""
    return tuple(sorted(len(ship) - 1 - number for number in lot))


def back_edge(ship, edge):
    return (edge[0], len(ship) - 2 - edge[1]) if edge[0] == "bulkhead" else edge


def back_name(ship, name):
    if name[0] == "deck":
        return ("deck", len(ship) - 1 - name[1], 1 - name[2])
    return ("keel", 1 - name[1]) if name[0] == "keel" else name


def cases(seed, many=6, cargoes=4):
    for at, ship in enumerate(SHIPS + tuple(some_ships(seed, many))):
        for cargo in some_cargoes(ship, at, cargoes):
            yield ship, cargo


class Ships(Case):
    def test_floods_and_wrong_ends_at_corresponding_cargoes(self):
        for ship, cargo in cases(111):
            for other, cargo_there, _ in views(ship):
                there = cargo_there(cargo)
                for lot in all_lots_of(len(ship)):
                    self.same(can_flood(other, lot, there), can_flood(ship, lot, cargo))
                    self.same(first_wrong(other, lot, there), first_wrong(ship, lot, cargo))

    def test_losses_and_lots_at_corresponding_cargoes(self):
        lost = 0
        for ship, cargo in cases(112):
            damages = tuple(all_lots_of(len(ship))[:4])
            for other, cargo_there, _ in views(ship):
                there = cargo_there(cargo)
                mine, its = loss_of(ship, damages, cargo), loss_of(other, damages, there)
                self.same(its and (its.damage, its.floods, its.wrong), mine and (mine.damage, mine.floods, mine.wrong))
                self.same(is_safe_cargo(other, damages, there), is_safe_cargo(ship, damages, cargo))
                lost += mine is not None
                for damage in damages:
                    self.same(lots_from(other, damage, there), lots_from(ship, damage, cargo))
                    self.same(ends_from(other, damage, there), ends_from(ship, damage, cargo))
                    # Loads grow by one factor in all these ships, so the rays are the same.
                    self.same(least_factors(other, damage, there), least_factors(ship, damage, cargo))
                    self.assertEqual(bearing_of(other, damage, there), bearing_of(ship, damage, cargo))
        self.assertGreater(lost, 50)

    def test_verdicts_of_corresponding_rules(self):
        safe = 0
        for ship in SHIPS:
            damages = tuple(all_lots_of(len(ship))[:3])
            for rule in small_rules(ship):
                mine = verdict_of(ship, rule, damages)
                for other, cargo_there, rule_there in views(ship):
                    its = verdict_of(other, rule_there(rule), damages)
                    self.assertIs(type(its), type(mine))
                    safe += isinstance(its, Safe)
                    if not isinstance(its, Safe):
                        self.same((its.damage, its.floods, its.wrong), (mine.damage, mine.floods, mine.wrong))
                    there = list(flood_rows(other, rule_there(rule), (0,)))
                    here = list(flood_rows(ship, rule, (0,)))
                    self.same([row.floods for row in there], [row.floods for row in here])
                    self.assertEqual([set(row.corners) for row in there],
                                     [{cargo_there(corner) for corner in row.corners} for row in here])
        self.assertGreater(safe, 10)

    def test_the_mirrored_ship(self):
        for ship, cargo in cases(113):
            other, there = ship.mirrored(), turned(ship, cargo, 1, -1)
            for lot in all_lots_of(len(ship)):
                self.same(can_flood(other, back(ship, lot), there), back(ship, can_flood(ship, lot, cargo)))
                for number in range(len(ship)):
                    edges = open_edges(other, back(ship, lot), there, len(ship) - 1 - number)
                    wanted = [back_edge(ship, edge) for edge in open_edges(ship, lot, cargo, number)]
                    self.same(sorted(edges), sorted(wanted))
                wrong = {name for name, one in wrongs_of(other, back(ship, lot)) if one.holds_cargo(there)}
                mine = {back_name(ship, name) for name, one in wrongs_of(ship, lot) if one.holds_cargo(cargo)}
                self.assertEqual(wrong, mine)
                self.assertEqual(deepening_of(other, back(ship, lot), there), deepening_of(ship, lot, cargo))
                self.same(is_lost(other, back(ship, lot), there), is_lost(ship, lot, cargo))
                self.assertEqual(set(lots_from(other, back(ship, lot), there)),
                                 {back(ship, one) for one in lots_from(ship, lot, cargo)})
                self.assertEqual(bearing_of(other, back(ship, lot), there), bearing_of(ship, lot, cargo))

    def test_verdicts_of_the_mirrored_ship(self):
        for ship in SHIPS:
            damages = tuple(all_lots_of(len(ship))[:4])
            mirrored = tuple(back(ship, lot) for lot in damages)
            for rule in small_rules(ship):
                self.same(is_safe(ship.mirrored(), rule.mirrored(), mirrored), is_safe(ship, rule, damages))
                self.same(len(chart_of(ship.mirrored(), rule.mirrored(), mirrored)), len(chart_of(ship, rule, damages)))
                place = Fraction(ship.ends[0] + 1)
                here, there = [highest_line(one, law, lots, r(at)) for one, law, lots, at in (
                    (ship, rule, damages, place), (ship.mirrored(), rule.mirrored(), mirrored, -place))]
                self.assertIs(type(there), type(here))
                if not isinstance(here, Tips):
                    self.same(there.height, here.height)

    def test_deeper_ships_stand_higher(self):
        for ship in SHIPS:
            for rule in small_rules(ship):
                here = highest_line(ship, rule, ((0,),), r(2))
                there = highest_line(ship.deeper(4), rule.scaled(r(4), r(4)), ((0,),), r(2))
                self.assertIs(type(there), type(here))
                if not isinstance(here, Tips):
                    self.same((there.height, there.damage, there.floods), (r(4 * f(here.height)), (0,), here.floods))


def parted(lot, number):
    """A lot in which both parts stand for the hold that was cut."""
    return tuple(at for hold in lot for at in ([hold, hold + 1] if hold == number else [hold + (hold > number)]))


class Splitting(Case):
    def test_if_the_split_ship_is_safe_so_is_the_whole_one(self):
        safe = 0
        for ship in SHIPS + tuple(some_ships(114, 10)):
            for number, (start, to, *_) in enumerate(ship.holds):
                if to - start < 2 or len(ship) > 5:
                    continue
                other = ship.split(number, start + 1)
                damages = tuple(all_lots_of(len(ship))[:5])
                for rule in small_rules(ship):
                    whole = is_safe(ship, rule, damages)
                    cut = is_safe(other, rule, tuple(parted(lot, number) for lot in damages))
                    self.assertLessEqual(cut, whole)
                    safe += cut
        self.assertGreater(safe, 20)

    def test_a_seventh_hold(self):
        ship = SHIPS[1].split(0, -15).split(0, -17)
        self.refused(BadShip, {"index": 0, "what": "many"}, ship.split, 5, 15)


class Rules(Case):
    def test_a_rule_is_safe_exactly_if_its_parts_are(self):
        several = 0
        for ship in SHIPS + tuple(some_ships(115, 6)):
            damages = tuple(all_lots_of(len(ship))[:3])
            for rule in small_rules(ship):
                weight = f(rule.least_weight) + f(rule.greatest_weight)
                for line in (half(1, 0, weight / 2), half(-1, 0, -weight / 3), half(0, 1, 1), half(1, 2, weight)):
                    parts = [part for part in parts_by(rule, line) if part is not None]
                    several += len(parts) == 2
                    self.same(is_safe(ship, rule, damages), all(is_safe(ship, part, damages) for part in parts))
        self.assertGreater(several, 50)

    def test_fewer_cargoes_and_fewer_damages_are_safer(self):
        for ship in SHIPS:
            damages = tuple(all_lots_of(len(ship))[:3])
            for rule in small_rules(ship):
                for damage in damages:
                    self.assertLessEqual(is_safe(ship, rule, damages), is_safe(ship, rule, (damage,)))
                less = rule.with_most(rule.least_weight)
                self.assertLessEqual(is_safe(ship, rule, damages), is_safe(ship, less, damages))


if __name__ == "__main__":
    unittest.main()
