import itertools
import unittest

from dryholds.boxes import Boxes
from dryholds.errors import BadBatch, BadDamages, CannotStand
from dryholds.lading import Lading, Stuck, lading_order
from dryholds.moves import Moves, moves_between, moves_fault, shut_fault
from dryholds.ship import Ship
from dryholds.slots import Slots
from tests.helpers import NO_SEQUENCES, NO_WHOLES, Case, hold, one_hold, r, rs, three_holds
from tests.test_boxes import NO_BATCHES, every_batch
from tests.test_damages import NO_DAMAGES
from tests.test_lading import SEA, beam, by_walk, cases, stands
from tests.walks import tipping

# Two boxes near the ends and a counterweight, with little room for all three.
TRIMMED = Boxes(Slots([rs(-9, 60), rs(9, 60), rs(0, 60)], r(22)),
                [(0, r(2)), (1, r(2)), (2, r(10)), (0, r(4)), (1, r(4))])


def back(deeds):
    """The deeds backwards, with loads and unloads exchanged."""
    return tuple(({"load": "unload", "unload": "load"}[word], box) for word, box in deeds[::-1])


def batch_past(batch, deed):
    word, box = deed
    assert (box in batch) == (word == "unload")
    return tuple(sorted({*batch} ^ {box}))


def lengths_from(good, many, start):
    """A dict: for each batch that can be come to, by a search in breadth, the number of deeds."""
    found, fresh = {start: 0}, [start]
    for batch in fresh:
        for box in range(many):
            later = tuple(sorted({*batch} ^ {box}))
            if later in good and later not in found:
                found[later] = found[batch] + 1
                fresh.append(later)
    return found


class Results(Case):
    def test_attributes_and_equality(self):
        self.same(vars(Moves(deeds=[["load", 0]])), {"deeds": (("load", 0),)})
        self.assertTrue(Moves((("load", 0),)) == Moves([("load", 0)]))
        for other in (Moves(()), Moves((("unload", 0),)), Lading((("load", 0),)), Stuck((("load", 0),)), None,
                      (("load", 0),)):
            self.assertFalse(Moves((("load", 0),)) == other)
        self.same(Moves(None).deeds, None)


class Between(Case):
    def check(self, ship, damages, boxes, one, other, good):
        """Whether there are moves, once they are looked at."""
        lengths = lengths_from(good, len(boxes), one)
        got = moves_between(ship, [list(damage) for damage in damages], boxes, list(one), list(other))
        if other not in lengths:
            self.assertIs(type(got), Stuck)
            self.same(got.batches, tuple(batch for batch in every_batch(len(boxes)) if batch in lengths))
            self.assertIsNone(shut_fault(ship, damages, boxes, one, other, got.batches))
            return False
        self.assertIs(type(got), Moves)
        self.same((type(got.deeds), len(got.deeds)), (tuple, lengths[other]))
        batch = one
        for deed in got.deeds:
            self.assertIs(type(deed), tuple)
            batch = batch_past(batch, deed)
            self.assertIn(batch, good)
        self.same(batch, other)
        self.assertIsNone(moves_fault(ship, damages, boxes, one, other, got.deeds))
        self.assertIsNone(moves_fault(ship, damages, boxes, other, one, back(got.deeds)))
        return True

    def test_against_a_search_in_breadth(self):
        found = {True: 0, False: 0}
        ends = [beam(rows) for rows in (((0, 2), (1, 2), (2, 3)), ((0, 6), (2, 5), (1, 50)), ((0, 2), (1, 2), (2, 10)),
                                        ((0, 3), (1, 3), (0, 3), (1, 3)), ((0, 2), (1, 2), (2, 6), (2, 70)))]
        for ship, damages, boxes in (*cases(231, 2), *[(one_hold(), SEA, boxes) for boxes in ends]):
            good = {batch for batch in every_batch(len(boxes)) if stands(ship, damages, boxes, batch)}
            for one in sorted(good):
                for other in sorted(good):
                    there = self.check(ship, damages, boxes, one, other, good)
                    self.same(there, self.check(ship, damages, boxes, other, one, good))
                    found[there] += 1
        self.assertGreater(min(found.values()), 20)

    def test_no_deed_is_needed(self):
        self.same(moves_between(one_hold(), SEA, beam(), (), ()).deeds, ())
        self.same(moves_between(one_hold(), SEA, beam(), [0, 1], (0, 1)).deeds, ())

    def test_a_counterweight_where_there_is_no_lading(self):
        # At most 22: the counterweight of 10 must be ashore again before all others are aboard.
        slots = Slots([rs(-9, 60), rs(9, 60), rs(0, 60)], r(22))
        boxes = Boxes(slots, [(0, r(2)), (1, r(2)), (2, r(10))])
        good = by_walk(one_hold(), SEA, boxes)[2]
        self.assertTrue(self.check(one_hold(), SEA, boxes, (), (0, 1), good))
        self.same(moves_between(one_hold(), SEA, boxes, (), (0, 1)).deeds,
                  (("load", 2), ("load", 0), ("load", 1), ("unload", 2)))
        # To the full batch without any lading: a box is put aboard, taken off and put aboard again.
        ship = Ship([hold(-10, 10)], [], [(r(-10), r(4)), (r(10), r(4))], (r(0), r(0)))
        places = ((-8, 22), (-8, 7), (6, 6), (6, 24), (3, 19))
        boxes = Boxes(Slots([rs(place, 60) for place, _ in places]), [(at, r(row[1])) for at, row in enumerate(places)])
        full = (0, 1, 2, 3, 4)
        self.assertIs(type(lading_order(ship, SEA, boxes)), Stuck)
        self.assertTrue(self.check(ship, SEA, boxes, (), full, by_walk(ship, SEA, boxes)[2]))
        self.assertGreater(len(moves_between(ship, SEA, boxes, (), full).deeds), 5)

    def test_a_lading_leads_to_the_full_batch_by_as_few_deeds_as_there_are_boxes(self):
        some = 0
        for ship, damages, boxes in cases(233, 8):
            got = lading_order(ship, damages, boxes)
            if isinstance(got, Lading):
                some += 1
                full = tuple(range(len(boxes)))
                self.same(len(moves_between(ship, damages, boxes, (), full).deeds), len(boxes))
                deeds = tuple(("load", box) for box in got.order)
                self.assertIsNone(moves_fault(ship, damages, boxes, (), full, deeds))
        self.assertGreater(some, 5)

    def test_6_boxes(self):
        boxes = beam([(2, 1)] * 6)
        self.same(len(moves_between(one_hold(), SEA, boxes, (0, 2, 4), (1, 3, 5)).deeds), 6)
        self.same(moves_between(one_hold(), SEA, beam([(2, 70)]), (), ()).deeds, ())

    def test_unloading_that_is_unsafe(self):
        boxes = beam([(0, 2), (1, 2)])
        good = by_walk(one_hold(), SEA, boxes)[2]
        self.same(sorted(good), [(), (0, 1)])
        self.same(self.check(one_hold(), SEA, boxes, (0, 1), (), good), False)
        self.same(moves_between(one_hold(), SEA, boxes, (0, 1), ()).batches, ((0, 1),))


class MovesJudge(Case):
    BOXES = beam([(0, 2), (1, 2), (2, 10)])
    DEEDS = (("load", 2), ("load", 0), ("load", 1), ("unload", 2))

    def fault(self, deeds, one=(), other=(0, 1)):
        return moves_fault(one_hold(), SEA, self.BOXES, one, other, deeds)

    def test_right_ones(self):
        for deeds in (self.DEEDS, list(self.DEEDS), [list(deed) for deed in self.DEEDS],
                      (("load", 2), ("unload", 2), *self.DEEDS)):
            self.assertIsNone(self.fault(deeds))
        self.assertIsNone(self.fault((), (0, 1), [0, 1]))

    def test_deeds(self):
        for thing in NO_SEQUENCES:
            self.same(self.fault(thing), "deeds")

    def test_deed(self):
        for thing in (*NO_SEQUENCES, (), ("load",), ("load", 0, 0), ("Load", 0), ("put", 0), (0, "load"), (None, 0),
                      ("load", 3), ("load", -1), ("load", 2), ("unload", 0), ("unload", 3), ("load", None),
                      ("load", "0"), ("load", (0,))):
            self.same(self.fault((("load", 2), thing)), "deed")
        for thing in NO_WHOLES:
            self.same(self.fault((("load", thing),)), "deed")
            self.same(self.fault((("load", 2), ("unload", thing))), "deed")

    def test_stand(self):
        self.same(self.fault((("load", 0), ("load", 1))), "stand")
        self.same(self.fault((("load", 2), ("load", 0), ("unload", 2))), "stand")

    def test_end(self):
        for deeds in ((), self.DEEDS[:3], self.DEEDS[:1], (*self.DEEDS, ("load", 2))):
            self.same(self.fault(deeds), "end")

    def test_the_first_word_where_two_faults_stand(self):
        self.same(self.fault((("load", 0), None)), "stand")
        self.same(self.fault((None, ("load", 0))), "deed")
        self.same(self.fault((("load", 0),), (), ()), "stand")


class ShutJudge(Case):
    BOXES = beam([(0, 2), (1, 2), (2, 3)])

    def fault(self, batches, one=(), other=(0, 1)):
        return shut_fault(one_hold(), SEA, self.BOXES, one, other, batches)

    def test_each_word(self):
        good = by_walk(one_hold(), SEA, self.BOXES)[2]
        self.same(sorted(good), [(), (0, 1), (0, 1, 2), (2,)])
        for batches in (((), (2,)), [[2], []], ((), (2,), (), (2,))):
            self.assertIsNone(self.fault(batches))
        for thing in (*NO_SEQUENCES, *[((), (2,), one) for one in NO_BATCHES]):
            self.same(self.fault(thing), "batches")
        for batches in ((), ((2,),), ((0, 1),), ((0, 1), (2,))):
            self.same(self.fault(batches), "start")
        self.same(self.fault(((), (0, 1))), "end")
        self.same(self.fault(((0, 1), (), (2,))), "end")
        self.same(self.fault(((),)), "way")
        self.same(self.fault(((), (2,), (0, 1, 2))), "way")
        # A batch that does not stand may be among them, with what stands beside it.
        self.same(self.fault(((), (2,), (0, 2))), "way")
        lone = beam([(0, 6), (2, 5), (1, 50)])
        self.same(sorted(by_walk(one_hold(), SEA, lone)[2]), [(), (1,)])
        self.same(shut_fault(one_hold(), SEA, lone, (), (1,), ((),)), "way")
        self.same(self.fault(((0, 1), (0, 1, 2)), (0, 1), (2,)), None)
        self.same(self.fault(((0, 1),), (0, 1), (2,)), "way")
        # One box less counts, too.
        self.same(self.fault(((0, 1, 2),), (0, 1, 2), ()), "way")

    def test_no_row_of_deeds_exactly_if_some_set_is_without_fault(self):
        for ship, damages, boxes in cases(234, 4):
            if len(boxes) > 2:
                continue
            good = {batch for batch in every_batch(len(boxes)) if stands(ship, damages, boxes, batch)}
            every = every_batch(len(boxes))
            sets = [some for size in range(len(every) + 1) for some in itertools.combinations(every, size)]
            for one in sorted(good):
                for other in sorted(good):
                    right = [some for some in sets if shut_fault(ship, damages, boxes, one, other, some) is None]
                    self.same(bool(right), other not in lengths_from(good, len(boxes), one))


class Errors(Case):
    CALLS = ((moves_between, ()), (moves_fault, (None,)), (shut_fault, (None,)))

    def test_in_their_order(self):
        boxes = beam([(0, 2), (1, 2), (2, 10)])
        for call, more in self.CALLS:
            for index, what, thing in NO_DAMAGES:
                self.refused(BadDamages, {"index": index, "what": what}, call, three_holds(), thing, boxes, None, None,
                             *more)
            for thing in NO_BATCHES:
                self.refused(BadBatch, {}, call, one_hold(), SEA, boxes, thing, (0,), *more)
                self.refused(BadBatch, {}, call, one_hold(), SEA, boxes, (0,), thing, *more)
            self.refused(CannotStand, {"batch": (0,)}, call, one_hold(), SEA, boxes, [0], [1], *more)
            self.refused(CannotStand, {"batch": (1,)}, call, one_hold(), SEA, boxes, [0, 1], [1], *more)
            self.refused(CannotStand, {"batch": ()}, call, tipping(10 ** 6), SEA, boxes, [], (), *more)
            self.refused(CannotStand, {"batch": (0, 3)}, call, one_hold(), SEA, TRIMMED, (), [0, 3], *more)


if __name__ == "__main__":
    unittest.main()
