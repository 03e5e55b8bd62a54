import itertools
import unittest
from fractions import Fraction

from dryholds.boxes import Boxes, all_batches, amounts_when, cargo_when, overfull_at
from dryholds.errors import BadBatch, BadBoxes
from dryholds.slots import Slots
from tests.helpers import NO_RATIOS, NO_SEQUENCES, NO_WHOLES, Case, f, point, r, rs

SLOTS = Slots((rs(-5, 10), rs("7/2", 6), rs(9, "1/2")), r(14))
ROWS = ((0, r(4)), (1, r("5/2")), (0, r(6)), (2, r("1/3")), (1, r("7/2")), (0, r("1/7")))
# What is no batch of three boxes.
NO_BATCHES = (*NO_SEQUENCES, (0, 0), (1, 0), (3,), (-1,), (0, 3), (0, 2, 1), [2, 2], (0, 1, 2, 3), ("0",), (0, 1.0),
              (True,), (0, True), (False,), [False, True, 2], ((0,),), (None,))


def boxes(many=6):
    return Boxes(SLOTS, ROWS[:many])


def every_batch(many):
    return [batch for size in range(many + 1) for batch in itertools.combinations(range(many), size)]


class Class(Case):
    def test_attributes(self):
        one = Boxes(slots=SLOTS, rows=[list(row) for row in ROWS])
        self.assertEqual(one.slots, SLOTS)
        self.same((one.rows, len(one)), (ROWS, 6))
        self.same([len(boxes(many)) for many in range(1, 7)], [1, 2, 3, 4, 5, 6])

    def test_equal(self):
        self.assertTrue(boxes() == Boxes(SLOTS, list(ROWS)))
        for other in (boxes(5), Boxes(Slots(SLOTS.rows), ROWS), Boxes(SLOTS, ROWS[::-1]), ROWS, SLOTS, None):
            self.assertFalse(boxes() == other)

    def test_later_changes_have_no_effect(self):
        given = [list(row) for row in ROWS]
        one = Boxes(SLOTS, given)
        given[0][0] = 2
        given.pop()
        self.same(one.rows, ROWS)

    def test_a_box_too_heavy_for_its_slot_is_let(self):
        one = Boxes(SLOTS, ((2, r(99)),))
        self.same((one.rows, overfull_at(one, (0,)), overfull_at(one, ())), (((2, r(99)),), ("slot", 2), None))


class Errors(Case):
    def wrong(self, index, what, rows, slots=SLOTS):
        self.refused(BadBoxes, {"index": index, "what": what}, Boxes, slots, rows)

    def test_slots(self):
        for thing in (None, 0, SLOTS.rows, boxes(), "slots", (), Slots):
            self.wrong(0, "slots", None, thing)
            self.wrong(0, "slots", ROWS, thing)

    def test_many(self):
        for thing in (*NO_SEQUENCES, (), [], ROWS + ROWS[:1], [None] * 7):
            self.wrong(0, "many", thing)

    def test_box(self):
        for thing in (*NO_SEQUENCES, (), (0,), (0, r(1), 0)):
            self.wrong(0, "box", [thing])
            self.wrong(2, "box", (*ROWS[:2], thing, (9, None)))

    def test_slot(self):
        for thing in (*NO_WHOLES, -1, 3):
            self.wrong(0, "slot", [(thing, r(1))])
            self.wrong(1, "slot", [ROWS[0], (thing, None), None])

    def test_weight(self):
        for thing in (*NO_RATIOS, r(0), r(-1)):
            self.wrong(0, "weight", [(0, thing)])
            self.wrong(5, "weight", [*ROWS[:5], (2, thing)])

    def test_the_first_wrong_row_counts(self):
        self.wrong(0, "weight", [(0, None), None])
        self.wrong(1, "slot", [ROWS[0], (3, None), (0, None)])


class Batches(Case):
    def test_all_batches(self):
        for many in range(1, 7):
            self.same(list(all_batches(boxes(many))), every_batch(many))
        self.same(len(list(all_batches(boxes(6)))), 64)

    def test_amounts_and_cargoes(self):
        for batch in every_batch(6):
            amounts = [sum((f(ROWS[box][1]) for box in batch if ROWS[box][0] == at), Fraction(0)) for at in range(3)]
            weight = sum(amounts)
            moment = sum(amount * f(place) for amount, (place, _) in zip(amounts, SLOTS.rows))
            for told in (batch, list(batch)):
                self.same(amounts_when(boxes(), told), rs(*amounts))
                self.same(cargo_when(boxes(), told), (r(weight), r(moment)))
            wanted = None
            for at in (2, 1, 0):
                if amounts[at] > f(SLOTS.rows[at][1]):
                    wanted = ("slot", at)
            if wanted is None and weight > 14:
                wanted = ("most",)
            self.same(overfull_at(boxes(), batch), wanted)

    def test_the_empty_and_the_full_batch(self):
        self.same((amounts_when(boxes(), ()), cargo_when(boxes(), [])), (rs(0, 0, 0), point(0, 0)))
        self.same(overfull_at(boxes(), ()), None)
        self.same(cargo_when(boxes(1), (0,)), point(4, -20))
        self.same(overfull_at(boxes(), (0, 1, 2, 3, 4, 5)), ("slot", 0))

    def test_the_least_slot_ahead_of_the_most(self):
        rows = ((0, r(10)), (0, r(1)), (1, r(7)))
        one = Boxes(SLOTS, rows)
        self.same([overfull_at(one, batch) for batch in ((0, 1), (0, 2), (2,), (0, 1, 2), (0,))],
                  [("slot", 0), ("slot", 1), ("slot", 1), ("slot", 0), None])

    def test_most_just_at_the_sum(self):
        slots = Slots((rs(0, 10), rs(1, 10)), r(12))
        for weights, wanted in (((7, 5), None), ((7, "501/100"), ("most",)), ((10, 2), None),
                                ((10, "21/10"), ("most",))):
            one = Boxes(slots, [(at, r(weight)) for at, weight in enumerate(weights)])
            self.same(overfull_at(one, (0, 1)), wanted)
        free = Boxes(Slots(slots.rows), ((0, r(10)), (1, r(10))))
        self.same(overfull_at(free, (0, 1)), None)

    def test_wrong_batches(self):
        for call in (amounts_when, cargo_when, overfull_at):
            for thing in NO_BATCHES:
                self.refused(BadBatch, {}, call, boxes(3), thing)
            for thing in NO_WHOLES:
                self.refused(BadBatch, {}, call, boxes(3), (thing,))


if __name__ == "__main__":
    unittest.main()
