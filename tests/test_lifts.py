import unittest
from fractions import Fraction

from dryholds.errors import BadLot, BadPlace
from dryholds.lifts import even_place, lift_of, still_place
from dryholds.postures import Tips, height_at, posture_of
from tests.helpers import BIG, NO_RATIOS, Case, all_lots_of, f, four_holds, one_hold, point, r, rs, six_holds, sums
from tests.helpers import three_holds
from tests.test_lots import NO_LOTS
from tests.test_postures import slack_ship

SHIPS = (one_hold(), three_holds(), four_holds(), six_holds())
PLACES = rs(-7, "-1/3", 0, "5/2", 4000)


def stiff_lots():
    """Ships with lots that do not tip, and with their sums."""
    for ship in SHIPS:
        for lot in all_lots_of(len(ship)):
            p, q, rest = sums(ship, lot)
            if p * rest - q * q > 0:
                yield ship, lot, p, q, rest


def tipping_lots():
    found = [(ship, lot) for ship in (three_holds(), slack_ship(r(90)), slack_ship(r("250/3")))
             for lot in all_lots_of(len(ship)) if posture_of(ship, lot, point(0, 0)) == Tips()]
    return found + [(slack_ship(r("250/3")), [])]


class Lifts(Case):
    def test_by_the_formula(self):
        for ship, lot, p, q, rest in stiff_lots():
            for put in PLACES:
                for seen in PLACES:
                    wanted = (rest - q * f(put) - q * f(seen) + p * f(put) * f(seen)) / (p * rest - q * q)
                    self.same(lift_of(ship, list(lot), put, seen), r(wanted))
                    self.same(lift_of(ship, lot, seen, put), r(wanted))

    def test_it_is_what_a_weight_of_one_raises(self):
        for ship, lot, *_ in stiff_lots():
            for put in PLACES:
                before = posture_of(ship, lot, point(3, 1))
                after = posture_of(ship, lot, point(4, 1 + f(put)))
                for seen in PLACES:
                    more = f(height_at(after, seen)) - f(height_at(before, seen))
                    self.same(lift_of(ship, lot, put, seen), r(more))
                self.assertGreater(f(lift_of(ship, lot, put, put)), 0)

    def test_a_weight_may_lower_the_line(self):
        self.same(lift_of(one_hold(), (), r(10), r(-10)), r("-1/10"))
        self.same(lift_of(one_hold(), (0,), r(10), r(10)), r("2/5"))

    def test_heights_are_sums_of_weight_times_lift(self):
        for ship, lot, *_ in stiff_lots():
            weights = ((Fraction(2), Fraction(-3)), (Fraction(5, 2), Fraction(1, 7)))
            weight = sum(one for one, _ in weights) - f(ship.own[0])
            moment = sum(one * place for one, place in weights) - f(ship.own[1])
            if weight >= 0:
                for seen in PLACES:
                    height = height_at(posture_of(ship, lot, point(weight, moment)), seen)
                    total = sum(one * f(lift_of(ship, lot, r(place), seen)) for one, place in weights)
                    self.same(height, r(total))

    def test_if_she_tips(self):
        self.assertGreater(len(tipping_lots()), 2)
        for ship, lot in tipping_lots():
            self.assertEqual(lift_of(ship, lot, r(1), r(2)), Tips())
            self.assertEqual(even_place(ship, lot), Tips())
            self.assertEqual(still_place(ship, lot, r(1)), Tips())

    def test_errors_in_their_order_also_if_she_tips(self):
        for ship, lot in (*tipping_lots(), (three_holds(), (1,))):
            self.refused(BadLot, {}, lift_of, ship, (1, 0), None, None)
            for thing in NO_RATIOS:
                self.refused(BadPlace, {"place": thing}, lift_of, ship, lot, thing, "other")
                self.refused(BadPlace, {"place": thing}, lift_of, ship, lot, r(0), thing)
                self.refused(BadPlace, {"place": thing}, still_place, ship, lot, thing)
        for thing in NO_LOTS:
            self.refused(BadLot, {}, lift_of, three_holds(), thing, None, None)
            self.refused(BadLot, {}, even_place, three_holds(), thing)
            self.refused(BadLot, {}, still_place, three_holds(), thing, None)


class TwoPlaces(Case):
    def test_the_even_place(self):
        for ship, lot, p, q, _ in stiff_lots():
            even = even_place(ship, list(lot))
            self.same(even, r(q / p))
            lifts = {lift_of(ship, lot, even, seen) for seen in PLACES}
            self.assertEqual(lifts, {r(1 / p)})
            for weight, moment in ((2, 7), (5, -30)):
                load = f(ship.own[0]) + weight
                self.same(height_at(posture_of(ship, lot, point(weight, moment)), even), r(load / p))

    def test_the_still_place(self):
        for ship, lot, p, q, rest in stiff_lots():
            even = q / p
            for put in PLACES:
                still = still_place(ship, list(lot), put)
                if f(put) == even:
                    self.assertIsNone(still)
                    continue
                self.same(lift_of(ship, lot, put, still), r(0))
                self.same(still_place(ship, lot, still), put)
                self.assertEqual((f(put) - even) * (f(still) - even), -(p * rest - q * q) / (p * p))

    def test_the_even_place_has_no_still_place(self):
        for ship, lot, p, q, _ in stiff_lots():
            self.assertIsNone(still_place(ship, lot, r(q / p)))
            self.assertIsNotNone(still_place(ship, lot, r(q / p + Fraction(1, BIG))))

    def test_examples(self):
        self.same(even_place(one_hold(), (0,)), r(0))
        self.same(still_place(one_hold(), (), r(10)), r("-10/3"))
        self.assertIsNone(still_place(one_hold(), (), r(0)))


if __name__ == "__main__":
    unittest.main()
