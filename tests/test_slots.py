import itertools
import random
import unittest
from fractions import Fraction

from dryholds.errors import BadAmounts, BadCargo, BadEnd, BadFactor, BadSlots, BadWeight
from dryholds.slots import Slots, cargo_by, filled_from, moments_at, stowage_fault, stowage_for
from tests.helpers import BIG, NO_RATIOS, NO_SEQUENCES, Case, f, point, r, rs
from tests.test_postures import NO_CARGOES

EXAMPLE = Slots((((-5, 1), (4, 1)), ((10, 1), (2, 1))))
BESIDE = Slots([(r(3), r(2)), (r(-1), r(1)), (r(3), r("1/2")), (r(-1), r(4))], r(6))
SINGLE = Slots([(r("-7/2"), r(5))])
LEFT_OUT = Slots([(r(1), r(5)), (r(2), r(5))], r(3))


def many_slots(chance):
    rows = [(r(chance.randint(-4, 4), chance.randint(1, 2)), r(chance.randint(1, 6), chance.randint(1, 3)))
            for _ in range(chance.randint(1, 6))]
    most = None if chance.random() < 0.5 else r(chance.randint(1, 12), 2)
    return Slots(rows, most)


def some_slots():
    chance = random.Random(21)
    return [EXAMPLE, BESIDE, SINGLE, LEFT_OUT, *[many_slots(chance) for _ in range(30)]]


def total(slots):
    whole = sum(f(weight) for _, weight in slots.rows)
    return whole if slots.most is None else min(whole, f(slots.most))


class Making(Case):
    def test_attributes(self):
        slots = Slots([[r(-1), r(2)], (r(3), r("1/2"))], r(2))
        self.same((slots.rows, slots.most), ((((-1, 1), (2, 1)), ((3, 1), (1, 2))), (2, 1)))
        self.same(Slots(rows=((r(0), r(1)),), most=None).most, None)
        self.same(EXAMPLE.most, None)

    def test_later_changes_have_no_effect(self):
        rows = [[r(0), r(1)]]
        slots = Slots(rows)
        rows[0][0] = "changed"
        rows.append("more")
        self.same(slots.rows, ((r(0), r(1)),))

    def test_numbers_of_rows(self):
        row = (r(0), r(1))
        for many in range(1, 7):
            self.same(len(Slots([row] * many)), many)
        for thing in (*NO_SEQUENCES, [], (), [row] * 7, ["x"] * 7):
            self.refused(BadSlots, {"index": 0, "what": "many"}, Slots, thing, "no most")

    def test_rows(self):
        good = (r(0), r(1))
        for row in ((r(-1000), r(1)), (r(1000), (1, BIG)), (r(0), (BIG, 1))):
            self.same(Slots([row]).rows, (row,))
        wrong = [("row", thing) for thing in (*NO_SEQUENCES, (), (r(0),), (r(0), r(1), r(1)))]
        wrong += [("place", (thing, "x")) for thing in ((1000 * BIG + 1, BIG), (-1000 * BIG - 1, BIG), *NO_RATIOS)]
        wrong += [("weight", (r(0), thing)) for thing in (r(0), r(-1), (-1, BIG), *NO_RATIOS)]
        for what, row in wrong:
            self.refused(BadSlots, {"index": 0, "what": what}, Slots, [row, "x"], "x")
            self.refused(BadSlots, {"index": 1, "what": what}, Slots, (good, row, "x"), "x")

    def test_most(self):
        for most in ((1, BIG), (BIG, 1)):
            self.same(Slots([(r(0), r(1))], most).most, most)
        for thing in (r(0), r(-1), (-1, BIG), *NO_RATIOS):
            if thing is not None:
                self.refused(BadSlots, {"index": 0, "what": "most"}, Slots, [(r(0), r(1))] * 2, thing)

    def test_length_and_iteration(self):
        self.same(len(BESIDE), 4)
        self.same(tuple(BESIDE), BESIDE.rows)
        self.same([row for row in EXAMPLE], [((-5, 1), (4, 1)), ((10, 1), (2, 1))])

    def test_equal_slots(self):
        self.assertTrue(EXAMPLE == Slots([[r(-5), r(4)], [r(10), r(2)]]))
        self.assertFalse(EXAMPLE != Slots([[r(-5), r(4)], [r(10), r(2)]]))
        for other in (Slots(EXAMPLE.rows[::-1]), Slots(EXAMPLE.rows, r(6)), SINGLE, EXAMPLE.rows, None):
            self.assertFalse(EXAMPLE == other)
            self.assertTrue(EXAMPLE != other)


class Telling(Case):
    def test_total(self):
        self.same(EXAMPLE.total, r(6))
        self.same(BESIDE.total, r(6))
        self.same(Slots(BESIDE.rows).total, r("15/2"))
        self.same(Slots(BESIDE.rows, r(8)).total, r("15/2"))
        self.same(Slots(BESIDE.rows, r("15/2")).total, r("15/2"))
        self.same(LEFT_OUT.total, r(3))
        for slots in some_slots():
            self.same(slots.total, r(total(slots)))

    def test_mirrored(self):
        self.same(BESIDE.mirrored().rows, ((r(-3), r(2)), (r(1), r(1)), (r(-3), r("1/2")), (r(1), r(4))))
        self.same(BESIDE.mirrored().most, r(6))
        self.same(EXAMPLE.mirrored().most, None)

    def test_shifted(self):
        self.same(BESIDE.shifted(r("1/2")).rows,
                  ((r("7/2"), r(2)), (r("-1/2"), r(1)), (r("7/2"), r("1/2")), (r("-1/2"), r(4))))
        self.same(BESIDE.shifted(r(-1)).most, r(6))
        self.same(EXAMPLE.shifted(r(990)).rows[1], (r(1000), r(2)))
        self.same(EXAMPLE.shifted(r(-995)).rows[0], (r(-1000), r(4)))
        for thing in NO_RATIOS:
            self.refused(BadFactor, {"factor": thing}, EXAMPLE.shifted, thing)
        self.refused(BadSlots, {"index": 1, "what": "place"}, EXAMPLE.shifted, (990 * BIG + 1, BIG))
        self.refused(BadSlots, {"index": 0, "what": "place"}, EXAMPLE.shifted, r(-996))
        self.refused(BadSlots, {"index": 0, "what": "place"}, EXAMPLE.shifted, r(3000))

    def test_with_most(self):
        for given, wanted in ((r(5), r(5)), (r(6), r(6)), (r(7), r(6))):
            self.same(BESIDE.with_most(given).most, wanted)
            self.same(EXAMPLE.with_most(given).most, given)
            self.same(BESIDE.with_most(given).rows, BESIDE.rows)
        for thing in (r(0), r(-1), *NO_RATIOS):
            self.refused(BadSlots, {"index": 0, "what": "most"}, BESIDE.with_most, thing)

    def test_the_slots_stay(self):
        before = repr((BESIDE.rows, BESIDE.most))
        for other in (BESIDE.mirrored(), BESIDE.shifted(r(1)), BESIDE.with_most(r(1))):
            self.assertIsNot(other, BESIDE)
        self.assertEqual(repr((BESIDE.rows, BESIDE.most)), before)


class Amounts(Case):
    def test_cargoes(self):
        self.same(cargo_by(EXAMPLE, (r(1), r("1/2"))), point("3/2", 0))
        self.same(cargo_by(EXAMPLE, [r(-1), r(100)]), point(99, 1005))
        self.same(cargo_by(SINGLE, (r(0),)), point(0, 0))

    def test_no_amounts(self):
        for thing in (*NO_SEQUENCES, (), (r(1),), (r(1), r(1), r(1)), [None]):
            self.refused(BadAmounts, {"what": "length"}, cargo_by, EXAMPLE, thing)
        for thing in NO_RATIOS:
            self.refused(BadAmounts, {"what": "amount"}, cargo_by, EXAMPLE, (thing, r(0)))
            self.refused(BadAmounts, {"what": "amount"}, cargo_by, EXAMPLE, [r(0), thing])

    def test_stowages(self):
        self.assertIsNone(stowage_fault(EXAMPLE, (r(2), r(1)), point(3, 0)))
        self.assertIsNone(stowage_fault(EXAMPLE, [r(4), r(2)], list(point(6, 0))))
        self.assertIsNone(stowage_fault(EXAMPLE, (r(0), r(0)), point(0, 0)))
        self.assertIsNone(stowage_fault(LEFT_OUT, (r(2), r(1)), point(3, 4)))

    def test_words(self):
        for thing in (*NO_SEQUENCES, (), (r(1),), (r(1), r(1), r(1))):
            self.same(stowage_fault(EXAMPLE, thing, point(3, 0)), "length")
        for thing in (r(-1), (-1, BIG), *NO_RATIOS):
            self.same(stowage_fault(EXAMPLE, (thing, r(9)), point(3, 0)), "amount")
            self.same(stowage_fault(EXAMPLE, (r(1), thing), point(3, 0)), "amount")
        self.same(stowage_fault(EXAMPLE, (r(5), r(-1)), point(3, 0)), "slot")
        self.same(stowage_fault(EXAMPLE, (r(4), (2 * BIG + 1, BIG)), point(3, 0)), "slot")
        self.same(stowage_fault(LEFT_OUT, (r(2), r(2)), point(3, 0)), "most")
        self.same(stowage_fault(LEFT_OUT, (r(2), (BIG + 1, BIG)), point(3, 4)), "most")
        self.same(stowage_fault(EXAMPLE, (r(2), r(1)), point(4, 0)), "weight")
        self.same(stowage_fault(EXAMPLE, (r(2), r(1)), point(4, 9)), "weight")
        self.same(stowage_fault(EXAMPLE, (r(2), r(1)), point(3, 1)), "moment")

    def test_no_cargoes(self):
        for what, thing in NO_CARGOES:
            self.refused(BadCargo, {"what": what}, stowage_fault, EXAMPLE, None, thing)
            self.refused(BadCargo, {"what": what}, stowage_for, EXAMPLE, thing)


class Fillings(Case):
    def test_examples(self):
        self.same(filled_from(EXAMPLE, r(3), "low"), rs(3, 0))
        self.same(filled_from(EXAMPLE, r(3), "high"), rs(1, 2))
        self.same(filled_from(EXAMPLE, r(6), "low"), rs(4, 2))
        self.same(filled_from(EXAMPLE, r(0), "high"), rs(0, 0))
        self.same(filled_from(Slots([(r(10), r(2)), (r(-5), r(4))]), r(5), "low"), rs(1, 4))

    def test_slots_of_one_place_come_by_their_number(self):
        self.same(filled_from(BESIDE, r(3), "low"), rs(0, 1, 0, 2))
        self.same(filled_from(BESIDE, r("1/2"), "low"), rs(0, "1/2", 0, 0))
        self.same(filled_from(BESIDE, r("9/4"), "high"), rs(2, 0, "1/4", 0))
        self.same(filled_from(BESIDE, r(3), "high"), rs(2, "1/2", "1/2", 0))
        self.same(filled_from(BESIDE, r(6), "high"), rs(2, 1, "1/2", "5/2"))
        self.same(filled_from(BESIDE, r(6), "low"), rs(1, 1, 0, 4))

    def test_near_places_are_told_apart(self):
        slots = Slots([((BIG, BIG - 1), r(1)), (r(1), r(1)), ((BIG - 1, BIG), r(1))])
        self.same(filled_from(slots, r(1), "low"), rs(0, 0, 1))
        self.same(filled_from(slots, r(1), "high"), rs(1, 0, 0))
        self.same(filled_from(slots, r(2), "low"), rs(0, 1, 1))

    def test_weights_beyond(self):
        for slots in some_slots():
            for end in ("low", "high"):
                self.assertIsNone(filled_from(slots, (-1, BIG), end))
                self.assertIsNone(filled_from(slots, r(total(slots) + Fraction(1, BIG)), end))
                self.assertIsNotNone(filled_from(slots, r(total(slots)), end))
                self.same(filled_from(slots, r(0), end), rs(0) * len(slots))
            self.assertIsNone(moments_at(slots, (-1, BIG)))
            self.assertIsNone(moments_at(slots, r(total(slots) + Fraction(1, BIG))))
            self.same(moments_at(slots, r(0)), rs(0, 0))

    def test_fillings_by_filling(self):
        for slots in some_slots():
            for part in (Fraction(1, 7), Fraction(1, 2), Fraction(1)):
                weight = total(slots) * part
                for end, sign in (("low", 1), ("high", -1)):
                    left, amounts = weight, [Fraction(0)] * len(slots)
                    for at in sorted(range(len(slots)), key=lambda at: (sign * f(slots.rows[at][0]), at)):
                        amounts[at] = min(left, f(slots.rows[at][1]))
                        left -= amounts[at]
                    self.same(filled_from(slots, r(weight), end), tuple(r(amount) for amount in amounts))

    def test_refusals_in_their_order(self):
        for thing in NO_RATIOS:
            self.refused(BadWeight, {"weight": thing}, filled_from, EXAMPLE, thing, "middle")
            self.refused(BadWeight, {"weight": thing}, moments_at, EXAMPLE, thing)
        for thing in ("", "Low", "lowhigh", None, 0, ["low"], ("low",), True):
            self.refused(BadEnd, {"end": thing}, filled_from, EXAMPLE, r(1), thing)
            self.refused(BadEnd, {"end": thing}, filled_from, EXAMPLE, r(-1), thing)

    def test_moments(self):
        self.same(moments_at(EXAMPLE, r(3)), rs(-15, 15))
        self.same(moments_at(LEFT_OUT, r(3)), rs(3, 6))
        self.same(moments_at(SINGLE, r(2)), rs(-7, -7))
        for slots in some_slots():
            for part in (Fraction(0), Fraction(1, 3), Fraction(1)):
                weight = r(total(slots) * part)
                wanted = tuple(cargo_by(slots, filled_from(slots, weight, end))[1] for end in ("low", "high"))
                self.same(moments_at(slots, weight), wanted)

    def test_no_stowage_has_a_moment_beyond(self):
        slots = Slots([(r(-2), r(2)), (r(1), r(1)), (r(3), r(2))], r(4))
        steps = [[Fraction(step, 2) for step in range(int(2 * f(weight)) + 1)] for _, weight in slots.rows]
        found = {}
        for amounts in itertools.product(*steps):
            if sum(amounts) <= 4:
                weight, moment = cargo_by(slots, tuple(r(amount) for amount in amounts))
                found.setdefault(weight, []).append(f(moment))
        for weight, moments in found.items():
            self.same(moments_at(slots, weight), (r(min(moments)), r(max(moments))))


class Stowing(Case):
    def test_cargoes_with_and_without_a_stowage(self):
        for slots in some_slots():
            for part in (Fraction(0), Fraction(1, 3), Fraction(1)):
                weight = total(slots) * part
                least, greatest = [f(moment) for moment in moments_at(slots, r(weight))]
                for share in (Fraction(0), Fraction(1, 5), Fraction(1)):
                    cargo = point(weight, least + share * (greatest - least))
                    amounts = stowage_for(slots, list(cargo))
                    self.assertIs(type(amounts), tuple)
                    self.assertIsNone(stowage_fault(slots, amounts, cargo))
                    self.judge(slots, amounts, cargo)
                self.assertIsNone(stowage_for(slots, point(weight, least - Fraction(1, BIG))))
                self.assertIsNone(stowage_for(slots, point(weight, greatest + Fraction(1, BIG))))
            self.assertIsNone(stowage_for(slots, point(total(slots) + Fraction(1, BIG), 0)))

    def judge(self, slots, amounts, cargo):
        self.assertEqual(len(amounts), len(slots))
        for amount, (_, weight) in zip(amounts, slots.rows):
            self.assertTrue(0 <= f(amount) <= f(weight))
        self.assertEqual(sum(f(amount) for amount in amounts), f(cargo[0]))
        self.assertLessEqual(f(cargo[0]), total(slots))
        self.assertEqual(sum(f(amount) * f(place) for amount, (place, _) in zip(amounts, slots.rows)), f(cargo[1]))

    def test_example(self):
        self.same(stowage_for(EXAMPLE, point(3, 0)), rs(2, 1))
        self.assertIsNone(stowage_for(EXAMPLE, point(3, 16)))
        self.assertIsNone(stowage_for(EXAMPLE, point(7, 0)))
        self.same(stowage_for(SINGLE, point(2, -7)), rs(2))
        self.assertIsNone(stowage_for(SINGLE, point(2, -6)))


if __name__ == "__main__":
    unittest.main()
