import random
import unittest

from dryholds.boxes import Boxes, cargo_when
from dryholds.errors import BadDamages, BadDeed, NoDeed, Overfull, ShipError, StillNeeded, Unsafe, WrongBox
from dryholds.lading import does_stand
from dryholds.log import Log
from dryholds.rules import Rule
from dryholds.slots import Slots
from dryholds.treejudge import lost_fault
from dryholds.verdict import Lost, loss_of
from tests.helpers import NO_SEQUENCES, NO_WHOLES, Case, one_hold, point, r, rs, three_holds
from tests.test_bench import Broken
from tests.test_damages import NO_DAMAGES
from tests.test_lading import SEA, beam, cases, stands
from tests.test_moves import batch_past
from tests.walks import rocker, tipping, two_holds

BOXES = beam([(0, 2), (1, 2), (2, 10), (2, 99), (2, 5), (2, 40)], r(58))


def log(deeds=(), boxes=BOXES):
    one = Log(one_hold(), SEA, boxes)
    for word, box in deeds:
        getattr(one, word)(box)
    return one


def state(one):
    return one.deeds, one.aboard, one.cargo_now, one.cargoes, len(one), list(one)


def outcome(call, *things):
    """What a call returns, or its error with what the error tells, but for a loss."""
    try:
        return call(*things)
    except ShipError as error:
        told = {name: thing for name, thing in vars(error).items() if name != "loss"}
        return type(error).__name__, told


class Checked(Case):
    def check(self, one):
        """The log is as one played anew from its deeds, and tells what its deeds make."""
        again = Log.played(one.ship, one.damages, one.boxes, one.deeds)
        self.assertTrue(again == one and one == again)
        self.same(state(again), state(one))
        batch, cargoes = (), [point(0, 0)]
        for deed in one.deeds:
            batch = batch_past(batch, deed)
            cargoes.append(cargo_when(one.boxes, batch))
            self.assertTrue(stands(one.ship, one.damages, one.boxes, batch))
        self.same((one.aboard, one.cargo_now, one.cargoes), (batch, cargoes[-1], tuple(cargoes)))
        self.same((len(one), list(one)), (len(one.deeds), list(one.deeds)))
        self.same((type(one.deeds), type(one.aboard)), (tuple, tuple))


class Logs(Checked):
    def test_a_new_log(self):
        one = Log(ship=one_hold(), damages=[[], [0]], boxes=BOXES)
        self.assertEqual((one.ship, one.boxes), (one_hold(), BOXES))
        self.same(one.damages, ((), (0,)))
        self.same(state(one), ((), (), point(0, 0), (point(0, 0),), 0, []))
        self.check(one)

    def test_load_and_unload(self):
        one = log()
        self.same([one.load(2), one.load(0), one.load(1), one.unload(2), one.load(4)], [0, 1, 2, 3, 4])
        self.same(one.deeds, (("load", 2), ("load", 0), ("load", 1), ("unload", 2), ("load", 4)))
        self.same((one.aboard, one.cargo_now), ((0, 1, 4), point(9, 0)))
        self.same(one.cargoes, (point(0, 0), point(10, 0), point(12, -18), point(14, 0), point(4, 0), point(9, 0)))
        self.check(one)

    def test_equal(self):
        deeds = (("load", 2), ("load", 0))
        self.assertTrue(log(deeds) == log(deeds))
        for other in (log(deeds[:1]), log((("load", 2), ("unload", 2))), Log(one_hold(), ((), ()), BOXES), None, deeds,
                      Log(two_holds(), SEA, BOXES), Log(one_hold(), SEA, beam()), log()):
            self.assertFalse(log(deeds) == other)
        for other in (Log.played(one_hold(), ((), ()), BOXES, deeds), Log.played(two_holds(), SEA, BOXES, deeds[:1]),
                      Log.played(one_hold(), SEA, Boxes(BOXES.slots, BOXES.rows[:3]), deeds)):
            self.assertFalse(log(deeds) == other)
            self.assertFalse(log(deeds[:1]) == other)
        # The same batch by other deeds.
        self.assertFalse(log((("load", 2), ("load", 4))) == log((("load", 4), ("load", 2))))

    def test_later_changes_of_what_was_passed_have_no_effect(self):
        damages, deeds = [[], [0]], [["load", 2]]
        one = Log(one_hold(), damages, BOXES)
        other = Log.played(one_hold(), damages, BOXES, deeds)
        damages[1].append(1)
        deeds[0][1] = 9
        deeds.append("more")
        self.same((one.damages, other.damages, other.deeds), (((), (0,)), ((), (0,)), (("load", 2),)))


class Doing(Checked):
    def refused_and_as_before(self, error, told, one, call, *things):
        before = state(one)
        self.refused(error, told, call, *things)
        self.same(state(one), before)

    def test_wrong_boxes(self):
        one = log((("load", 2), ("load", 0)))
        for thing in (*NO_WHOLES, -1, 6):
            for call in (one.load, one.unload):
                self.refused_and_as_before(WrongBox, {"box": thing, "what": "none"}, one, call, thing)
        for box in (0, 2):
            self.refused_and_as_before(WrongBox, {"box": box, "what": "aboard"}, one, one.load, box)
        for box in (1, 3, 4, 5):
            self.refused_and_as_before(WrongBox, {"box": box, "what": "ashore"}, one, one.unload, box)

    def test_overfull(self):
        one = log((("load", 2), ("load", 4)))
        self.refused_and_as_before(Overfull, {"slot": 2}, one, one.load, 3)
        one = log((("load", 5), ("load", 2)))
        one.load(4)
        # Only the sum would be above the most: 55 and 5 more in another slot.
        wide = Boxes(Slots([rs(0, 40), rs(0, 40)], r(50)), [(0, r(30)), (1, r(20)), (1, r("1/9")), (0, r(11))])
        other = log((("load", 0), ("load", 1)), wide)
        self.refused_and_as_before(Overfull, {"slot": None}, other, other.load, 2)
        # A slot is told ahead of the sum.
        self.refused_and_as_before(Overfull, {"slot": 0}, other, other.load, 3)

    def test_overfull_ahead_of_unsafe(self):
        boxes = Boxes(Slots([rs(9, 4)]), [(0, r(5))])
        self.refused(Overfull, {"slot": 0}, log((), boxes).load, 0)

    def unsafe(self, one, call, box, cargo):
        """A deed is refused with the loss of its cargo."""
        before = state(one)
        with self.assertRaises(Unsafe) as caught:
            call(box)
        self.same(state(one), before)
        loss = caught.exception.loss
        self.assertIs(type(loss), Lost)
        self.same(vars(loss), vars(loss_of(one.ship, one.damages, cargo)))
        self.assertIsNone(lost_fault(one.ship, Rule.at(cargo), one.damages, loss))

    def test_unsafe(self):
        one = log()
        self.unsafe(one, one.load, 0, point(2, -18))
        one = log((("load", 2), ("load", 0)))
        # Unloading can be unsafe, too.
        self.unsafe(one, one.unload, 2, point(2, -18))
        one.load(1)
        one.unload(2)
        self.unsafe(one, one.unload, 0, point(2, 18))
        self.check(one)

    def test_a_first_cargo_that_is_lost(self):
        for ship, damages in ((tipping(10 ** 6), SEA), (tipping(2000), ((), (0, 1)))):
            with self.assertRaises(Unsafe) as caught:
                Log(ship, damages, BOXES)
            self.same(vars(caught.exception.loss), vars(loss_of(ship, damages, point(0, 0))))
            with self.assertRaises(Unsafe):
                Log.played(ship, damages, BOXES, None)

    def test_damages_come_first(self):
        for index, what, thing in NO_DAMAGES:
            self.refused(BadDamages, {"index": index, "what": what}, Log, three_holds(), thing, BOXES)
            self.refused(BadDamages, {"index": index, "what": what}, Log.played, three_holds(), thing, BOXES, None)

    def test_next_boxes(self):
        self.same([log(deeds).next_boxes() for deeds in ((), (("load", 2),), (("load", 2), ("load", 0)))],
                  [(2, 4, 5), (0, 1, 4, 5), (1, 4, 5)])
        self.same(log((), beam()).next_boxes(), ())
        for ship, damages, boxes in cases(241, 6):
            if not stands(ship, damages, boxes, ()):
                continue
            one = Log(ship, damages, boxes)
            while one.next_boxes():
                wanted = [box for box in range(len(boxes)) if box not in one.aboard
                          and does_stand(ship, damages, boxes, sorted((*one.aboard, box)))]
                before = state(one)
                self.same(one.next_boxes(), tuple(wanted))
                self.same(state(one), before)
                taken = [box for box in range(len(boxes))
                         if one.tried(lambda held: isinstance(outcome(held.load, box), int))]
                self.same(taken, wanted)
                one.load(wanted[-1])
            self.check(one)

    def test_100_deeds(self):
        one = log()
        chance = random.Random(242)
        many = 0
        while len(one) < 100:
            box = chance.randrange(6)
            many += isinstance(outcome(chance.choice((one.load, one.unload)), box), int)
        self.same(many, 100)
        self.check(one)
        for _ in range(5):
            before, number = one.deeds, chance.randrange(100)
            got = outcome(one.take_back, number)
            if got is None:
                self.same(one.deeds, before[:number] + before[number + 1:])
            self.check(one)


class Played(Checked):
    def test_deeds_done_one_by_one(self):
        one = Log.played(one_hold(), SEA, BOXES, [["load", 2], ("load", 0)])
        self.assertIs(type(one), Log)
        self.same(one.deeds, (("load", 2), ("load", 0)))
        self.check(one)
        self.assertIsInstance(vars(Log)["played"], staticmethod)
        self.check(Log.played(one_hold(), SEA, BOXES, ()))

    def wrong(self, error, told, deeds):
        self.refused(error, told, Log.played, one_hold(), SEA, BOXES, deeds)

    def test_bad_deeds(self):
        for thing in NO_SEQUENCES:
            self.wrong(BadDeed, {"index": 0}, thing)
        for thing in (*NO_SEQUENCES, (), ("load",), ("load", 0, 0), ("Load", 0), (0, "load"), (None, 2), ("take", 2)):
            self.wrong(BadDeed, {"index": 0}, [thing])
            self.wrong(BadDeed, {"index": 1}, (("load", 2), thing, None))

    def test_the_first_wrong_deed_counts(self):
        self.wrong(WrongBox, {"box": None, "what": "none"}, [("load", None), None])
        self.wrong(WrongBox, {"box": True, "what": "none"}, [("load", 2), ("unload", True), None])
        self.wrong(WrongBox, {"box": 2, "what": "aboard"}, [("load", 2), ("load", 2)])
        self.wrong(WrongBox, {"box": 2, "what": "ashore"}, [("unload", 2), ("load", 3)])
        self.wrong(Overfull, {"slot": 2}, [("load", 3), ("unload", 9)])
        self.wrong(BadDeed, {"index": 0}, [("lad", 3), ("load", 9)])
        with self.assertRaises(Unsafe) as caught:
            Log.played(one_hold(), SEA, BOXES, (("load", 0), None))
        self.same(caught.exception.loss.cargo, point(2, -18))

    def test_a_log_is_equal_to_the_log_played_anew(self):
        chance = random.Random(243)
        for ship, damages, boxes in cases(244, 8):
            if stands(ship, damages, boxes, ()):
                one = Log(ship, damages, boxes)
                for _ in range(12):
                    outcome(chance.choice((one.load, one.unload)), chance.randrange(len(boxes)))
                    self.check(one)


class TakenBack(Checked):
    DEEDS = (("load", 2), ("load", 0), ("load", 1), ("unload", 2), ("load", 4), ("unload", 4))

    def test_wherever_it_stands(self):
        one = log(self.DEEDS)
        self.assertIsNone(one.take_back(3))
        self.same(one.deeds, self.DEEDS[:3] + self.DEEDS[4:])
        self.check(one)
        self.assertIsNone(one.take_back(4))
        self.assertIsNone(one.take_back(3))
        self.same((one.deeds, one.aboard), (self.DEEDS[:3], (0, 1, 2)))
        self.check(one)
        for number in (2, 1, 0):
            self.assertIsNone(one.take_back(number))
        self.same(state(one), state(log()))

    def test_still_needed(self):
        one = log(self.DEEDS)
        before = state(one)
        # Without the counterweight box 0 is unsafe; without box 0 the counterweight cannot go ashore.
        for number, later in ((0, 1), (1, 3), (2, 3), (4, 5)):
            self.refused(StillNeeded, {"number": number, "later": later}, one.take_back, number)
            self.same(state(one), before)

    def test_overfull_behind(self):
        one = log((("load", 5), ("load", 2), ("unload", 5), ("load", 4)))
        self.refused(StillNeeded, {"number": 0, "later": 2}, one.take_back, 0)
        tight = Boxes(Slots([rs(0, 10)]), [(0, r(6)), (0, r(5))])
        other = log((("load", 0), ("unload", 0), ("load", 1)), tight)
        self.refused(StillNeeded, {"number": 1, "later": 2}, other.take_back, 1)
        self.same(len(other), 3)

    def test_against_every_row_of_deeds_played_anew(self):
        chance = random.Random(245)
        kinds = {}
        for ship, damages, boxes in cases(246, 8):
            if not stands(ship, damages, boxes, ()):
                continue
            one = Log(ship, damages, boxes)
            for _ in range(14):
                outcome(chance.choice((one.load, one.unload)), chance.randrange(len(boxes)))
            for number in range(len(one)):
                deeds, held = one.deeds, Log.played(ship, damages, boxes, one.deeds)
                rest = deeds[:number] + deeds[number + 1:]
                worked = [at for at in range(len(rest) + 1)
                          if not isinstance(outcome(Log.played, ship, damages, boxes, rest[:at]), tuple)]
                got = outcome(held.take_back, number)
                if len(worked) == len(rest) + 1:
                    self.same((got, held.deeds), (None, rest))
                    self.check(held)
                else:
                    first = max(worked)
                    later = first if first < number else first + 1
                    self.same(got, ("StillNeeded", {"number": number, "later": later}))
                    self.same(state(held), state(one))
                kinds[got is None] = kinds.get(got is None, 0) + 1
        self.assertGreater(min(kinds.values()), 10)

    def test_no_deed(self):
        one = log(self.DEEDS)
        before = state(one)
        for thing in (*NO_WHOLES, -1, 6):
            self.refused(NoDeed, {"number": thing}, one.take_back, thing)
        self.same(state(one), before)
        self.refused(NoDeed, {"number": 0}, log().take_back, 0)


class Trials(Checked):
    DEEDS = (("load", 2), ("load", 0))

    def test_a_block(self):
        one = log(self.DEEDS)
        before = state(one)
        with one.trial() as held:
            self.assertIs(held, one)
            self.same(held.load(1), 2)
            held.unload(2)
            held.take_back(3)
            self.check(held)
            self.same(len(one), 3)
        self.same(state(one), before)
        self.same(one.load(4), 2)

    def test_an_error_goes_on(self):
        one = log(self.DEEDS)
        before = state(one)
        with self.assertRaises(Broken):
            with one.trial() as held:
                held.load(1)
                raise Broken
        self.same(state(one), before)
        with self.assertRaises(WrongBox):
            with one.trial():
                one.load(1)
                one.load(1)
        self.same(state(one), before)

    def test_left_by_return(self):
        one = log(self.DEEDS)

        def left():
            with one.trial() as held:
                return held.load(1)
        self.same((left(), one.deeds), (2, self.DEEDS))

    def test_a_trial_in_a_trial(self):
        one = log(self.DEEDS)
        before = state(one)
        with one.trial() as held:
            held.load(1)
            inner = state(one)
            with held.trial() as again:
                again.unload(2)
                self.same(again.tried(lambda deep: (deep.load(4), deep.aboard)), (4, (0, 1, 4)))
                self.same(again.aboard, (0, 1))
                with self.assertRaises(Broken):
                    with again.trial():
                        again.load(4)
                        raise Broken
                self.same(again.aboard, (0, 1))
            self.same(state(one), inner)
        self.same(state(one), before)

    def test_as_it_was_at_its_entry(self):
        one = log(self.DEEDS)
        trial = one.trial()
        one.load(1)
        before = state(one)
        with trial:
            one.unload(2)
        self.same(state(one), before)

    def test_tried(self):
        one = log(self.DEEDS)
        before = state(one)
        self.same(one.tried(lambda held: (held is one, held.load(1), held.next_boxes())), (True, 2, (4, 5)))
        self.same(state(one), before)

        def broken(held):
            held.load(1)
            raise Broken
        with self.assertRaises(Broken):
            one.tried(broken)
        self.same(state(one), before)
        self.assertIsNone(one.tried(lambda held: held.take_back(1)))
        self.same(state(one), before)


class OtherShips(Checked):
    def test_a_ship_with_floods(self):
        boxes = Boxes(Slots([rs(0, 99)]), [(0, r(19)), (0, r(2)), (0, r(70))])
        one = Log(rocker(), ((), (0,), (1,)), boxes)
        for box in (0, 1):
            one.load(box)
        self.refused(WrongBox, {"box": 1, "what": "aboard"}, one.load, 1)
        with self.assertRaises(Unsafe) as caught:
            one.load(2)
        self.same(caught.exception.loss.cargo, point(91, 0))
        self.check(one)


if __name__ == "__main__":
    unittest.main()
