import itertools
import random
import unittest

from dryholds.boxes import Boxes, cargo_when, overfull_at
from dryholds.errors import BadBatch, BadDamages, NoLading
from dryholds.lading import Lading, Stuck, does_stand, lading_order, ladings_count, must_precede, order_fault
from dryholds.lading import standing_batches, stuck_fault
from dryholds.rules import rule_of
from dryholds.slots import Slots
from dryholds.verdict import is_safe, is_safe_cargo
from tests.helpers import NO_SEQUENCES, NO_WHOLES, Case, all_lots_of, f, four_holds, one_hold, r, rs
from tests.helpers import three_holds
from tests.test_boxes import NO_BATCHES, every_batch
from tests.test_damages import NO_DAMAGES
from tests.walks import SHIPS, first_lost_row, some_ships, tipping, two_holds

SEA = ((),)


def beam(weights=((0, 6), (1, 6)), most=None, ends=(-9, 9)):
    """Boxes for a ship of one hold about place 0, in slots near her ends."""
    slots = Slots([rs(ends[0], 60), rs(ends[1], 60), rs(0, 60)], most)
    return Boxes(slots, [(at, r(weight)) for at, weight in weights])


def stands(ship, damages, boxes, batch):
    """Whether a batch stands, by a walk over every order of floods."""
    cargo = cargo_when(boxes, batch)
    return overfull_at(boxes, batch) is None and not any(first_lost_row(ship, damage, cargo) for damage in damages)


def by_walk(ship, damages, boxes):
    """(all ladings, all batches that can be come to), by a walk over all orders."""
    many = len(boxes)
    good = {batch for batch in every_batch(many) if stands(ship, damages, boxes, batch)}
    ladings, come = [], set()
    for order in itertools.permutations(range(many)):
        batches = [tuple(sorted(order[:at])) for at in range(many + 1)]
        passed = list(itertools.takewhile(lambda batch: batch in good, batches))
        come.update(passed)
        if len(passed) == many + 1:
            ladings.append(order)
    return ladings, tuple(batch for batch in every_batch(many) if batch in come), good


def cases(seed, many):
    """Ships, damages and boxes of many kinds."""
    chance = random.Random(seed)
    for ship in SHIPS + tuple(some_ships(seed, many)):
        first, last = ship.ends
        area = sum(breadth * (to - start) for start, to, breadth, _, _ in ship.holds)
        lots = all_lots_of(len(ship))
        for damages in ((lots[0],), (lots[1], lots[0])):
            slots = Slots([(r(chance.randint(first, last)), r(area * 4)) for _ in range(2)]
                          + [(r(first + last, 2), r(area))],
                          chance.choice((None, r(area))))
            rows = [(chance.randrange(3), r(area * chance.randint(1, 6), 12)) for _ in range(chance.randint(1, 4))]
            yield ship, damages, Boxes(slots, rows)


class Results(Case):
    def test_attributes_and_equality(self):
        self.same((vars(Lading(order=[1, 0])), vars(Stuck(batches=[[], [1]]))),
                  ({"order": (1, 0)}, {"batches": ((), (1,))}))
        self.assertTrue(Lading((0, 1)) == Lading([0, 1]) and Stuck(((),)) == Stuck([()]))
        for one, other in ((Lading((0, 1)), Lading((1, 0))), (Lading(()), Stuck(())), (Stuck(()), Lading(())),
                           (Stuck(((),)), Stuck(())), (Lading(()), ()), (Stuck(()), None)):
            self.assertFalse(one == other)
        self.same((Lading(None).order, Stuck(7).batches), (None, 7))


class Standing(Case):
    def test_by_walks(self):
        kinds = {}
        for ship, damages, boxes in cases(221, 6):
            wanted = [batch for batch in every_batch(len(boxes)) if stands(ship, damages, boxes, batch)]
            self.same(standing_batches(ship, [list(damage) for damage in damages], boxes), tuple(wanted))
            for batch in every_batch(len(boxes)):
                self.same(does_stand(ship, damages, boxes, list(batch)), batch in wanted)
                kinds[(batch in wanted, overfull_at(boxes, batch))] = True
        self.assertTrue({(True, None), (False, None), (False, ("slot", 2)), (False, ("most",))} <= set(kinds))

    def test_the_empty_batch(self):
        self.same(does_stand(one_hold(), SEA, beam(), ()), True)
        # The dry ship tips: nothing stands.
        self.same(standing_batches(tipping(10 ** 6), SEA, beam()), ())

    def test_6_boxes(self):
        boxes = beam([(2, 1)] * 6)
        self.same(standing_batches(one_hold(), SEA, boxes), tuple(every_batch(6)))


class Ladings(Case):
    def test_by_walks_over_all_orders(self):
        kinds = {}
        for ship, damages, boxes in cases(222, 14):
            ladings, come, _ = by_walk(ship, damages, boxes)
            got = lading_order(ship, [list(damage) for damage in damages], boxes)
            self.same(ladings_count(ship, damages, boxes), len(ladings))
            if ladings:
                self.assertIs(type(got), Lading)
                self.same(got.order, min(ladings))
                wanted = tuple((one, other) for one in range(len(boxes)) for other in range(len(boxes)) if one != other
                               and all(order.index(one) < order.index(other) for order in ladings))
                self.same(must_precede(ship, damages, boxes), wanted)
                kinds["before" if wanted else "free"] = True
            else:
                self.assertIs(type(got), Stuck)
                self.same(got.batches, come)
                self.refused(NoLading, {}, must_precede, ship, damages, boxes)
                self.assertIsNone(stuck_fault(ship, damages, boxes, got.batches))
                kinds[min(len(come), 2)] = True
            for order in itertools.permutations(range(len(boxes))):
                self.same(order_fault(ship, damages, boxes, order) is None, order in ladings)
        self.assertEqual(set(kinds), {"before", "free", 0, 1, 2})

    def test_by_hand(self):
        # No moment may be above 10 / 3 of the weight, so the boxes at the ends need one in the middle.
        boxes = beam([(0, 2), (1, 2), (2, 10)])
        self.same(lading_order(one_hold(), SEA, boxes).order, (2, 0, 1))
        self.same((ladings_count(one_hold(), SEA, boxes), must_precede(one_hold(), SEA, boxes)), (2, ((2, 0), (2, 1))))
        self.assertTrue(lading_order(one_hold(), SEA, beam()) == Stuck(((),)))
        self.same(ladings_count(one_hold(), SEA, beam()), 0)
        middle = beam([(2, 3), (2, 3)])
        self.same((lading_order(one_hold(), SEA, middle).order, ladings_count(one_hold(), SEA, middle)), ((0, 1), 2))
        self.same(must_precede(one_hold(), SEA, middle), ())

    def test_one_box(self):
        for weight, count in ((5, 1), (80, 0)):
            boxes = beam([(2, weight)])
            self.same(ladings_count(one_hold(), SEA, boxes), count)
        self.same(lading_order(one_hold(), SEA, beam([(2, 5)])).order, (0,))
        self.same(must_precede(one_hold(), SEA, beam([(2, 5)])), ())

    def test_6_boxes(self):
        boxes = beam([(2, 1)] * 6)
        self.same(ladings_count(one_hold(), SEA, boxes), 720)
        self.same(lading_order(one_hold(), SEA, boxes).order, (0, 1, 2, 3, 4, 5))
        heavy = beam([(0, 3), (1, 3), (2, 9), (2, 4), (0, 1), (1, 5)])
        ladings, _, _ = by_walk(one_hold(), SEA, heavy)
        self.same(ladings_count(one_hold(), SEA, heavy), len(ladings))
        self.same(lading_order(one_hold(), SEA, heavy).order, min(ladings))

    def test_the_empty_batch_does_not_stand(self):
        ship = tipping(10 ** 6)
        self.assertTrue(lading_order(ship, SEA, beam()) == Stuck(()))
        self.same(ladings_count(ship, SEA, beam()), 0)
        self.refused(NoLading, {}, must_precede, ship, SEA, beam())

    def test_a_box_too_heavy_for_its_slot(self):
        boxes = Boxes(Slots([rs(0, 10)]), [(0, r(4)), (0, r(11))])
        self.assertTrue(lading_order(one_hold(), SEA, boxes) == Stuck(((), (0,))))

    def test_most_just_at_the_sum(self):
        for most, count in ((r(12), 2), (r(11), 0)):
            boxes = Boxes(Slots([rs(0, 10)] * 2, most), [(0, r(5)), (1, r(7))])
            self.same(ladings_count(one_hold(), SEA, boxes), count)

    def test_if_the_rule_of_the_slots_is_safe_every_order_is_a_lading(self):
        some = 0
        for ship, damages, boxes in cases(223, 20):
            # Lighter slots about the middle are safe the sooner.
            first, last = ship.ends
            slots = Slots([(r(first + last, 2), r(f(row[1]) / 20)) for row in boxes.slots.rows])
            middle = Boxes(slots, [(at, r(f(weight) / 99)) for at, weight in boxes.rows])
            if is_safe(ship, rule_of(middle.slots), damages) and all(
                    overfull_at(middle, batch) is None for batch in every_batch(len(middle))):
                some += 1
                count = len(list(itertools.permutations(range(len(middle)))))
                self.same(ladings_count(ship, damages, middle), count)
        slots = Slots([rs(-2, 10), rs(2, 10)])
        boxes = Boxes(slots, [(0, r(4)), (1, r(5)), (0, r(6)), (1, r(1))])
        self.same(is_safe(one_hold(), rule_of(slots), ((), (0,))), True)
        self.same(ladings_count(one_hold(), ((), (0,)), boxes), 24)
        self.assertGreater(some, 5)


class OrderJudge(Case):
    BOXES = beam([(0, 2), (1, 2), (2, 10)])

    def test_each_word(self):
        for order in ((2, 0, 1), [2, 1, 0]):
            self.assertIsNone(order_fault(one_hold(), SEA, self.BOXES, order))
        for thing in (*NO_SEQUENCES, (), (0, 1), (0, 1, 2, 2), (0, 1, 1), (0, 1, 3), (-1, 0, 1), (2, 0, True),
                      (2, False, 1), (2, 0, 1.0), ("0", "1", "2"), ((2,), (0,), (1,)), (None, 0, 1)):
            self.same(order_fault(one_hold(), SEA, self.BOXES, thing), "order")
        for order in ((0, 1, 2), (0, 2, 1), (1, 2, 0)):
            self.same(order_fault(one_hold(), SEA, self.BOXES, order), "stand")
        self.same(order_fault(tipping(10 ** 6), SEA, self.BOXES, (2, 0, 1)), "start")
        self.same(order_fault(tipping(10 ** 6), SEA, self.BOXES, (2, 0)), "order")
        # The last batch of all does not stand.
        self.same(order_fault(one_hold(), SEA, beam([(2, 30), (2, 51)]), (0, 1)), "stand")


class StuckJudge(Case):
    def test_each_word(self):
        boxes = beam([(0, 6), (1, 6), (2, 5)])
        self.same(lading_order(one_hold(), SEA, boxes).batches, ((), (2,)))
        self.same(standing_batches(one_hold(), SEA, boxes), ((), (2,), (0, 1), (0, 1, 2)))

        def fault(batches, ship=None):
            return stuck_fault(one_hold() if ship is None else ship, SEA, boxes, batches)
        for batches in (((), (2,)), [[2], []], ((), (2,), (), (2,)), [(2,), []]):
            self.assertIsNone(fault(batches))
        for thing in (*NO_SEQUENCES, *[((), one) for one in NO_BATCHES]):
            self.same(fault(thing), "batches")
        self.same(fault(((), (2,), (0, 1, 2))), "full")
        self.same(fault(((0, 1, 2),)), "full")
        self.same(fault(()), "start")
        self.same(fault(((2,),)), "start")
        self.same(fault(((),)), "way")
        # A batch that does not stand may be among them; what stands above it must be, too.
        self.same(fault(((), (2,), (0,))), "way")
        self.assertIsNone(stuck_fault(one_hold(), SEA, beam([(0, 6), (2, 5)]), ((0,), (1,), ())))
        self.same(fault(((), (2,), (0, 1))), "way")
        self.assertIsNone(fault(((2,),), tipping(10 ** 6)))
        self.assertIsNone(fault((), tipping(10 ** 6)))

    def test_there_is_a_lading_exactly_if_no_set_is_without_fault(self):
        kinds = set()
        chance = random.Random(224)
        for ship, damages, boxes in cases(225, 4):
            if len(boxes) > 3:
                continue
            ladings, come, _ = by_walk(ship, damages, boxes)
            every = every_batch(len(boxes))
            if len(boxes) < 3:
                sets = [some for size in range(len(every) + 1) for some in itertools.combinations(every, size)]
            else:
                sets = [chance.sample(every, chance.randint(0, 8)) for _ in range(40)] + [come]
            right = [some for some in sets if stuck_fault(ship, damages, boxes, some) is None]
            self.same(bool(right), not ladings)
            kinds.add(bool(right))
        self.assertEqual(kinds, {True, False})


class Errors(Case):
    def test_damages_then_batches(self):
        boxes = beam([(0, 2), (1, 2), (2, 10)])
        for index, what, thing in NO_DAMAGES:
            error = {"index": index, "what": what}
            for call in (standing_batches, lading_order, ladings_count, must_precede):
                self.refused(BadDamages, error, call, three_holds(), thing, boxes)
            for call in (does_stand, order_fault, stuck_fault):
                self.refused(BadDamages, error, call, three_holds(), thing, boxes, None)
        for thing in NO_BATCHES:
            self.refused(BadBatch, {}, does_stand, three_holds(), SEA, boxes, thing)
        for thing in NO_WHOLES:
            self.refused(BadBatch, {}, does_stand, three_holds(), SEA, boxes, (thing,))


class SafeCargoes(Case):
    def test_the_same_for_all_damages_together_and_one_by_one(self):
        for ship, damages, boxes in cases(226, 4):
            cargo = cargo_when(boxes, tuple(range(len(boxes))))
            lots = tuple(all_lots_of(len(ship)))
            self.same(is_safe_cargo(ship, lots * 2, cargo), all(is_safe_cargo(ship, (lot,), cargo) for lot in lots))
        self.same(does_stand(four_holds(), ((3,),), beam([(2, 1)]), (0,)), True)
        self.same(does_stand(two_holds(), ((0,), (1,)), beam([(2, 1)]), ()), True)


if __name__ == "__main__":
    unittest.main()
