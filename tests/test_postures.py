import unittest
from fractions import Fraction

from dryholds import postures
from dryholds.errors import BadCargo, BadLine, BadLot, BadPlace
from dryholds.postures import Floating, Posture, Tips, cargo_of, does_tip, height_at, is_off, line_row, line_rows
from dryholds.postures import posture_fault, posture_of, store_of, sums_of
from dryholds.ship import Ship
from tests.helpers import BIG, NO_RATIOS, NO_WHOLES, Case, all_lots_of, f, four_holds, hold, line, one_hold, point, r
from tests.helpers import rs, six_holds, sums, three_holds
from tests.test_lots import NO_LOTS

SHIPS = (one_hold(), three_holds(), four_holds(), six_holds())
CARGOES = (point(0, 0), point(5, -3), point("7/3", 20), point("1/9", "-2/7"))
NO_CARGOES = (("pair", None), ("pair", (r(1),)), ("weight", (r(-1), None)), ("weight", ([1, 1], r(0))),
              ("moment", (r(1), 0)), ("moment", [r(1), (2, 4)]))


def slack_ship(slack):
    """Two holds with P = 10, Q = 10 and R = 280/3 before the slack: dry, they just tip with the slack 250/3."""
    return Ship([hold(-4, 0, 1, 0), hold(0, 6, 1, "1/2")], [r(3)], [(r(0), r(2))], (r(0), r(0)), slack=slack)


class Kinds(Case):
    def test_classes(self):
        self.same((Floating.KIND, Posture.KIND, Tips.KIND), ("", "line", "tips"))
        self.same((Floating().KIND, Posture(r(0), r(0)).KIND, Tips().KIND), ("", "line", "tips"))
        self.assertEqual((Posture.__bases__, Tips.__bases__), ((Floating,), (Floating,)))
        for name in ("__eq__", "KIND"):
            self.assertIn(name, vars(Posture))
            self.assertIn(name, vars(Tips))

    def test_lines(self):
        one = Posture(r("1/2"), r(-3))
        self.same((one.s, one.t), ((1, 2), (-3, 1)))
        self.same(vars(Posture(s=r(1), t=r(2))), {"s": (1, 1), "t": (2, 1)})
        self.assertTrue(one == Posture(r("1/2"), r(-3)))
        for other in (Posture(r("1/2"), r(3)), Posture(r("1/3"), r(-3)), Tips(), Floating(), None, (r("1/2"), r(-3))):
            self.assertFalse(one == other)
            self.assertTrue(one != other)

    def test_tips(self):
        self.assertTrue(Tips() == Tips())
        for other in (Posture(r(0), r(0)), Floating(), None, "tips"):
            self.assertFalse(Tips() == other)

    def test_no_lines(self):
        for thing in NO_RATIOS:
            self.refused(BadLine, {"what": "s"}, Posture, thing, r(0))
            self.refused(BadLine, {"what": "s"}, Posture, thing, thing)
            self.refused(BadLine, {"what": "t"}, Posture, r(0), thing)


class Sums(Case):
    def test_hold_by_hold(self):
        for ship in SHIPS:
            for lot in all_lots_of(len(ship)):
                wanted = tuple(r(number) for number in sums(ship, lot))
                self.same(sums_of(ship, lot), wanted)
                self.same(sums_of(ship, list(lot)), wanted)

    def test_examples(self):
        self.same(sums_of(one_hold(), ()), rs(20, 0, "2000/3"))
        self.same(sums_of(one_hold(), (0,)), rs(10, 0, "1000/3"))
        self.same(sums_of(slack_ship(r(1)), ()), rs(10, 10, "277/3"))
        self.same(sums_of(slack_ship(r(1)), (0,)), rs(6, 18, 71))
        self.same(sums_of(slack_ship(r(1)), (1,)), rs(7, 1, "169/3"))
        self.same(sums_of(slack_ship(r(1)), (0, 1)), rs(3, 9, 35))

    def test_shares_of_nothing_and_of_all(self):
        ship = Ship([hold(0, 1, 1, 0), hold(1, 2, 1, 1)], [r(0)], [(r(0), r(0))], (r(0), r(0)))
        self.same(sums_of(ship, (0, 1)), rs(1, "3/2", "7/3"))
        self.same(sums_of(ship, (1,)), sums_of(ship, ()))

    def test_no_lots(self):
        for thing in NO_LOTS:
            self.refused(BadLot, {}, sums_of, three_holds(), thing)
            self.refused(BadLot, {}, does_tip, three_holds(), thing)


class Tipping(Case):
    def test_just_at_the_bound(self):
        bound, little = Fraction(250, 3), Fraction(1, BIG)
        for slack, wanted in ((bound - little, False), (bound, True), (bound + little, True)):
            ship = slack_ship(r(slack))
            self.same(does_tip(ship, ()), wanted)
            self.assertIs(posture_of(ship, (), CARGOES[1]) == Tips(), wanted)
            self.assertIs(line_row(ship, (), r(0)) == Tips(), wanted)
            self.assertIs(posture_fault(ship, (), CARGOES[0], Posture(r(0), r(0))) == "tips", wanted)

    def test_a_ship_without_any_push_tips(self):
        ship = Ship([hold(0, 1, 1, 0), hold(1, 2, 1, 0)], [r(0)], [(r(0), r(0))], (r(0), r(0)))
        self.same([does_tip(ship, lot) for lot in all_lots_of(2)], [False, False, False, True])

    def test_against_the_formula(self):
        seen = set()
        for ship in (*SHIPS, *[slack_ship(r(slack)) for slack in (0, 18, 20, 50, 60, 90)]):
            for lot in all_lots_of(len(ship)):
                p, q, rest = sums(ship, lot)
                seen.add(p * rest - q * q <= 0)
                self.same(does_tip(ship, lot), p * rest - q * q <= 0)
        self.assertEqual(seen, {True, False})

    def test_a_greater_lot_tips_too(self):
        for slack in (0, 18, 20, 50, 60, 90):
            ship = slack_ship(r(slack))
            for lot in all_lots_of(2):
                for more in all_lots_of(2):
                    if set(lot) <= set(more) and does_tip(ship, lot):
                        self.assertTrue(does_tip(ship, more))


class Lines(Case):
    def test_against_the_formula(self):
        for ship in SHIPS:
            for lot in all_lots_of(len(ship)):
                for cargo in CARGOES:
                    got = posture_of(ship, lot, cargo)
                    wanted = line(ship, lot, f(cargo[0]), f(cargo[1]))
                    if wanted is None:
                        self.assertEqual(got, Tips())
                        continue
                    self.assertIs(type(got), Posture)
                    self.same((got.s, got.t), (r(wanted[0]), r(wanted[1])))
                    p, q, rest = sums(ship, lot)
                    self.assertEqual(p * wanted[0] + q * wanted[1], f(ship.own[0]) + f(cargo[0]))
                    self.assertEqual(q * wanted[0] + rest * wanted[1], f(ship.own[1]) + f(cargo[1]))
                    self.assertEqual(posture_of(ship, list(lot), list(cargo)), got)

    def test_examples(self):
        self.assertEqual(posture_of(one_hold(), (), point(40, 10)), Posture(r(2), r("3/200")))
        self.assertEqual(posture_of(one_hold(), (0,), point(20, 10)), Posture(r(2), r("3/100")))
        line_of = posture_of(four_holds(), (3,), point(80, 0))
        self.same(height_at(line_of, r(10)), r("1888/673"))
        self.same(height_at(posture_of(four_holds(), (2, 3), point(80, 0)), r(20)), r("48/11"))
        self.assertEqual(posture_of(four_holds(), (0, 3), point(80, 0)), Posture(r("8/3"), r(0)))

    def test_errors_in_their_order_also_if_she_tips(self):
        for ship, lot in ((three_holds(), (1,)), (slack_ship(r(90)), (0,))):
            for thing in NO_LOTS:
                self.refused(BadLot, {}, posture_of, ship, thing if thing != (0, 1, 2, 3) else (9,), None)
            for what, thing in NO_CARGOES:
                self.refused(BadCargo, {"what": what}, posture_of, ship, lot, thing)

    def test_mixed_loads(self):
        for ship in SHIPS:
            for u in (Fraction(1, 3), Fraction(-2), Fraction(5, 2)):
                load = [[f(own) + f(part) for own, part in zip(ship.own, cargo)] for cargo in CARGOES[1:3]]
                mixed = [u * one + (1 - u) * other - f(own) for one, other, own in zip(*load, ship.own)]
                if mixed[0] < 0:
                    continue
                lines = [posture_of(ship, (), cargo) for cargo in (*CARGOES[1:3], point(*mixed))]
                self.same(lines[2].s, r(u * f(lines[0].s) + (1 - u) * f(lines[1].s)))
                self.same(lines[2].t, r(u * f(lines[0].t) + (1 - u) * f(lines[1].t)))

    def test_great_numbers(self):
        cargo = ((BIG, BIG - 1), (-BIG, 2))
        got = posture_of(three_holds(), (0,), cargo)
        self.same((f(got.s), f(got.t)), line(three_holds(), (0,), f(cargo[0]), f(cargo[1])))


class Heights(Case):
    def test_heights(self):
        self.same(height_at(Posture(r(2), r("-1/3")), r("3/2")), r("3/2"))
        self.same(height_at(Posture(r(2), r("-1/3")), r(-3000)), r(1002))
        for thing in NO_RATIOS:
            self.refused(BadPlace, {"place": thing}, height_at, Posture(r(0), r(0)), thing)

    def test_rows(self):
        places = rs(-7, 0, "1/2", 11, 4000)
        for ship in SHIPS:
            for lot in all_lots_of(len(ship)):
                rows = line_rows(ship, list(lot), list(places))
                if does_tip(ship, lot):
                    self.assertEqual(rows, Tips())
                    self.assertEqual(line_row(ship, lot, r(1)), Tips())
                    continue
                self.assertIs(type(rows), tuple)
                self.same(rows, tuple(line_row(ship, lot, place) for place in places))
                for row, place in zip(rows, places):
                    self.assertIs(type(row), tuple)
                    self.assertNotEqual(row[:2], (r(0), r(0)))
                    for cargo in CARGOES:
                        height = f(row[0]) * f(cargo[0]) + f(row[1]) * f(cargo[1]) + f(row[2])
                        self.same(r(height), height_at(posture_of(ship, lot, cargo), place))

    def test_row_by_the_formula(self):
        p, q, rest = sums(three_holds(), (0, 2))
        stiff = p * rest - q * q
        by_weight, by_moment = (rest - q * 3) / stiff, (p * 3 - q) / stiff
        self.same(line_row(three_holds(), (0, 2), r(3)),
                  (r(by_weight), r(by_moment), r(by_weight * Fraction(7, 2) - by_moment * Fraction(4, 3))))

    def test_no_places(self):
        self.same(line_rows(three_holds(), (), ()), ())
        self.same(line_rows(three_holds(), (), []), ())

    def test_errors_in_their_order_also_if_she_tips(self):
        for ship, lot in ((three_holds(), (1,)), (slack_ship(r(90)), (0,))):
            self.refused(BadLot, {}, line_row, ship, (1, 0), None)
            self.refused(BadLot, {}, line_rows, ship, (1, 0), [None])
            for thing in NO_RATIOS:
                self.refused(BadPlace, {"place": thing}, line_row, ship, lot, thing)
                self.refused(BadPlace, {"place": thing}, line_rows, ship, lot, [r(0), thing, "other"])

    def test_off_the_boxes(self):
        ship = Ship([hold(-4, 0, deck=3), hold(0, 6, deck=5)], [r(1)], [(r(0), r(2))], (r(0), r(0)))
        off = [(3, "1/3"), (3, 1), ("31/10", 0), (4, 0), (2, "-3/8"), (-1, 0), (-1, 1), (2, -1), (2, 1)]
        on = [(3, 0), (0, 0), ("7/3", "-1/6"), (2, "1/2"), (3, "1/4"), (2, "-1/4"), ("12/5", "-3/20")]
        for s, t in off:
            self.same(is_off(ship, Posture(r(s), r(t))), self.off(ship, Fraction(s), Fraction(t)))
        for s, t in on:
            self.same(is_off(ship, Posture(r(s), r(t))), False)
        self.same(is_off(ship, Posture(r(3), (-1, BIG))), True)
        self.same(is_off(ship, Posture(r(3), (1, BIG))), False)
        self.same(is_off(ship, Posture(r(2), r("-1/3"))), True)
        self.same(is_off(ship, Posture((3 * BIG + 1, BIG), r(0))), True)
        self.same(is_off(ship, Posture((-1, BIG), (1, BIG))), True)
        self.same(is_off(ship, Posture(r(1), r(Fraction(-1, 6) - Fraction(1, BIG)))), True)
        self.same(is_off(ship, Posture(r(1), r("-1/6"))), False)
        self.same(is_off(ship, Posture(r(1), r(Fraction(1, 4) + Fraction(1, BIG)))), True)
        self.same(is_off(ship, Posture(r(1), r("1/4"))), False)

    def off(self, ship, s, t):
        decks = any(s + t * place > f(row[4]) for row in ship.holds for place in row[:2])
        return decks or any(s + t * place < 0 for place in ship.ends)

    def test_a_deck_counts_at_both_ends_of_its_hold(self):
        ship = Ship([hold(0, 2, deck=9), hold(2, 4, deck=2), hold(4, 6, deck=9)], [r(0)] * 2, [(r(0), r(0))],
                    (r(0), r(0)))
        self.same(is_off(ship, Posture(r(5), r(-1))), True)
        self.same(is_off(ship, Posture(r(-1), r(1))), True)
        self.same(is_off(ship, Posture(r(0), r("1/2"))), False)
        self.same(is_off(ship, Posture(r(0), r("51/100"))), True)
        self.same(is_off(ship, Posture(r(3), r("-1/2"))), False)
        self.same(is_off(ship, Posture(r("31/10"), r("-1/2"))), True)


class BackFromLines(Case):
    def test_the_cargo_of_a_posture(self):
        for ship in SHIPS:
            for lot in all_lots_of(len(ship)):
                for cargo in CARGOES:
                    posture = posture_of(ship, lot, cargo)
                    if posture != Tips():
                        self.same(cargo_of(ship, list(lot), posture), cargo)

    def test_any_line_also_if_she_tips(self):
        for ship in (*SHIPS, slack_ship(r(90))):
            for lot in all_lots_of(len(ship)):
                p, q, rest = sums(ship, lot)
                for s, t in ((0, 0), (-3, "1/2"), ("5/3", -2)):
                    weight = p * Fraction(s) + q * Fraction(t) - f(ship.own[0])
                    moment = q * Fraction(s) + rest * Fraction(t) - f(ship.own[1])
                    self.same(cargo_of(ship, lot, Posture(r(s), r(t))), (r(weight), r(moment)))
        self.assertLess(f(cargo_of(three_holds(), (), Posture(r(-3), r(0)))[0]), 0)

    def test_no_lots(self):
        for thing in NO_LOTS:
            self.refused(BadLot, {}, cargo_of, three_holds(), thing, Posture(r(0), r(0)))
            self.refused(BadLot, {}, posture_fault, three_holds(), thing, None, Posture(r(0), r(0)))
            self.refused(BadLot, {}, store_of, three_holds(), thing, None, Posture(r(0), r(0)))

    def test_no_cargoes(self):
        for ship, lot in ((three_holds(), (1,)), (slack_ship(r(90)), (0,))):
            for what, thing in NO_CARGOES:
                self.refused(BadCargo, {"what": what}, posture_fault, ship, lot, thing, Posture(r(0), r(0)))
                self.refused(BadCargo, {"what": what}, store_of, ship, lot, thing, Posture(r(0), r(0)))

    def test_judging(self):
        for ship in SHIPS:
            for lot in all_lots_of(len(ship)):
                if does_tip(ship, lot):
                    continue
                for cargo in CARGOES:
                    posture = posture_of(ship, lot, cargo)
                    self.assertIsNone(posture_fault(ship, list(lot), list(cargo), posture))
                    p, q, rest = sums(ship, lot)
                    s, t = f(posture.s), f(posture.t)
                    # Along (q, -p) the weight stays and the moment changes, along (1, 0) the weight changes.
                    self.same(posture_fault(ship, lot, cargo, Posture(r(s + q), r(t - p))), "moment")
                    self.same(posture_fault(ship, lot, cargo, Posture(r(s + 1), r(t))), "weight")
                    self.same(posture_fault(ship, lot, cargo, Posture(r(s + rest), r(t - q))), "weight")

    def test_judging_if_she_tips(self):
        for thing in (Posture(r(0), r(0)), Posture(r(1), r(5))):
            self.same(posture_fault(slack_ship(r(90)), (0, 1), point(0, 0), thing), "tips")


class Stores(Case):
    def test_by_the_formula(self):
        for ship in (*SHIPS, slack_ship(r(90))):
            for lot in all_lots_of(len(ship)):
                p, q, rest = sums(ship, lot)
                for cargo in CARGOES:
                    load, turn = f(ship.own[0]) + f(cargo[0]), f(ship.own[1]) + f(cargo[1])
                    for s, t in ((Fraction(0), Fraction(0)), (Fraction(7, 3), Fraction(-1, 2))):
                        wanted = (p * s * s + 2 * q * s * t + rest * t * t) / 2 - load * s - turn * t
                        self.same(store_of(ship, list(lot), list(cargo), Posture(r(s), r(t))), r(wanted))

    def test_the_posture_has_the_least_store(self):
        for ship in SHIPS:
            for lot in all_lots_of(len(ship)):
                for cargo in CARGOES[:2]:
                    posture = posture_of(ship, lot, cargo)
                    if posture == Tips():
                        continue
                    p, q, rest = sums(ship, lot)
                    least = f(store_of(ship, lot, cargo, posture))
                    for u, v in ((1, 0), (0, -1), (-2, Fraction(1, 3))):
                        other = Posture(r(f(posture.s) + u), r(f(posture.t) + v))
                        more = f(store_of(ship, lot, cargo, other)) - least
                        self.assertEqual(more, (p * u * u + 2 * q * u * v + rest * v * v) / 2)
                        self.assertGreater(more, 0)


class SeenOtherwise(Case):
    """[1.6]: the postures of ships seen otherwise belong together."""

    def pairs(self, other_ship, move, turn_lot=lambda lot, many: lot):
        for ship in (one_hold(), three_holds(), four_holds(), six_holds()):
            other = other_ship(ship)
            for lot in all_lots_of(len(ship)):
                seen = turn_lot(lot, len(ship))
                self.assertEqual(does_tip(ship, lot), does_tip(other, seen))
                for weight, moment in ((5, 3), (0, 0), (Fraction(7, 3), -20)):
                    posture = posture_of(ship, lot, point(weight, moment))
                    if posture != Tips():
                        yield posture, posture_of(other, seen, point(*move(weight, moment)))

    def test_mirrored(self):
        def turn(lot, many):
            return tuple(sorted(many - 1 - at for at in lot))

        for one, other in self.pairs(lambda ship: ship.mirrored(), lambda w, m: (w, -m), turn):
            self.assertEqual(other, Posture(one.s, r(-f(one.t))))

    def test_shifted(self):
        for one, other in self.pairs(lambda ship: ship.shifted(-13), lambda w, m: (w, m - 13 * w)):
            self.assertEqual(other, Posture(r(f(one.s) + 13 * f(one.t)), one.t))

    def test_lengthened(self):
        for one, other in self.pairs(lambda ship: ship.lengthened(3), lambda w, m: (3 * w, 9 * m)):
            self.assertEqual(other, Posture(one.s, r(f(one.t) / 3)))

    def test_deeper(self):
        for one, other in self.pairs(lambda ship: ship.deeper(3), lambda w, m: (3 * w, 3 * m)):
            self.assertEqual(other, Posture(r(3 * f(one.s)), r(3 * f(one.t))))

    def test_a_split_ship_with_both_parts_stands_for_the_hold(self):
        ship = three_holds()
        for lot, both in (((), ()), ((1,), (1, 2)), ((0, 1), (0, 1, 2)), ((0, 2), (0, 3))):
            for cargo in CARGOES:
                self.assertEqual(posture_of(ship.split(1, 3), both, cargo), posture_of(ship, lot, cargo))


class Names(Case):
    def test_nothing_is_changed(self):
        ship = three_holds()
        lot, cargo, places = [0, 2], [r(1), r(2)], [r(0)]
        posture_of(ship, lot, cargo)
        line_rows(ship, lot, places)
        self.same((lot, cargo, places), ([0, 2], [r(1), r(2)], [r(0)]))
        self.assertEqual(ship, three_holds())

    def test_defined_here(self):
        for name in ("Floating", "Posture", "Tips", "sums_of", "does_tip", "posture_of", "height_at", "line_row",
                     "line_rows", "cargo_of", "posture_fault", "store_of", "is_off"):
            self.assertEqual(getattr(postures, name).__module__, "dryholds.postures")

    def test_bools_are_no_holds(self):
        for thing in NO_WHOLES:
            self.refused(BadLot, {}, does_tip, three_holds(), (thing,))


if __name__ == "__main__":
    unittest.main()
