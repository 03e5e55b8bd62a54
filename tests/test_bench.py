import random
import unittest

from dryholds.bench import Bench
from dryholds.changes import apply_changes
from dryholds.errors import BadChange, BadDamages, NoChange, TooMany
from dryholds.rules import Rule
from dryholds.ship import Ship
from dryholds.treejudge import lost_fault, tree_fault
from dryholds.verdict import Safe
from tests.helpers import NO_WHOLES, Case, four_holds, hold, one_hold, point, r, three_holds
from tests.test_changes import POOL, WIDE
from tests.test_damages import NO_DAMAGES
from tests.test_mends import ORDERS
from tests.test_rows import LINE
from tests.walks import box, sieve, two_holds

DAMAGES = ((), (0,), (1, 2))
# (word, a change that a bench of sieve() refuses).
WRONG = (("change", None), ("change", ("shut", "hatch", 0)), ("hold", ("order", 0, True)), ("hold", ("order", 1, 1)),
         ("bulkhead", ("raise", 2, r(5))), ("top", ("raise", 0, r(4))), ("number", ("shut", "port", 4)),
         ("weight", ("lighter", r(1))), ("weight", ("lighter", [40, 1])))


class Broken(Exception):
    pass


def bench():
    return Bench(sieve(), WIDE, DAMAGES)


def state(one):
    """All that a bench tells, apart from ship and rule."""
    return one.start[2], one.damages, one.standing, one.log, len(one), list(one)


class Checked(Case):
    def check(self, one):
        """The bench is as its standing changes say, made anew."""
        self.assertEqual(one.start[:2], (sieve(), WIDE))
        self.same(one.start[2], DAMAGES)
        ship, rule, damages = apply_changes(sieve(), WIDE, DAMAGES, [change for _, change in one.standing])
        self.assertEqual((one.ship, one.rule), (ship, rule))
        self.same(one.damages, damages)
        self.same((len(one), list(one)), (len(one.standing), list(one.standing)))
        self.same((type(one.standing), type(one.log), type(one.start)), (tuple, tuple, tuple))

    def same_bench(self, one, before, ship, rule):
        self.same(state(one), before)
        self.assertEqual((one.ship, one.rule), (ship, rule))


class Benches(Checked):
    def test_a_new_bench(self):
        one = Bench(ship=sieve(), rule=WIDE, damages=[[], [0], [1, 2]])
        self.check(one)
        self.same((one.standing, one.log, one.damages), ((), (), DAMAGES))

    def test_put_and_take_back(self):
        one = bench()
        self.same([one.put(change) for change in (POOL[0], list(POOL[3]), POOL[11])], [1, 2, 3])
        self.check(one)
        self.same(one.standing, ((1, POOL[0]), (2, POOL[3]), (3, POOL[11])))
        self.assertIsNone(one.take_back(2))
        self.check(one)
        self.same(one.standing, ((1, POOL[0]), (3, POOL[11])))
        # Numbers are never given again.
        self.same(one.put(POOL[3]), 4)
        self.assertIsNone(one.take_back(1))
        self.assertIsNone(one.take_back(4))
        self.check(one)
        self.same(one.put(POOL[0]), 5)
        self.same(one.standing, ((3, POOL[11]), (5, POOL[0])))
        self.same(one.log, (("put", 1, POOL[0]), ("put", 2, POOL[3]), ("put", 3, POOL[11]), ("back", 2, POOL[3]),
                            ("put", 4, POOL[3]), ("back", 1, POOL[0]), ("back", 4, POOL[3]), ("put", 5, POOL[0])))
        self.check(one)

    def test_many_calls_beside_benches_made_anew(self):
        chance = random.Random(211)
        one, standing, log, given = bench(), [], [], 0
        for _ in range(120):
            if given < 100 and (chance.random() < 0.6 or not standing):
                change = chance.choice(POOL)
                given += 1
                self.same(one.put(chance.choice((change, list(change)))), given)
                standing.append((given, change))
                log.append(("put", given, change))
            elif standing:
                entry = standing.pop(chance.randrange(len(standing)))
                self.assertIsNone(one.take_back(entry[0]))
                log.append(("back", *entry))
            self.same((one.standing, one.log), (tuple(standing), tuple(log)))
            self.check(one)
        self.assertGreater(given, 50)

    def test_a_change_is_judged_against_the_start(self):
        one = bench()
        one.put(("shut", "door", 3))
        # The start has this door still, and its first top, and its weights.
        self.same(one.put(("shut", "door", 3)), 2)
        one.put(("raise", 0, r(8)))
        self.same(one.put(("raise", 0, r(5))), 4)
        one.put(("lighter", r(10)))
        one.put(("lighter", r(50)))
        self.check(one)
        self.same((one.ship.tops[0], one.rule.greatest_weight, len(one.ship.doors)), (r(8), r(10), 3))

    def test_a_change_that_stands_twice(self):
        one = bench()
        one.put(POOL[0])
        one.put(POOL[0])
        one.take_back(1)
        self.same((one.standing, one.damages), (((2, POOL[0]),), ((), (0, 1), (1, 2))))
        self.check(one)

    def test_later_changes_of_what_was_passed_have_no_effect(self):
        damages, change = [[], [0], [1, 2]], ["order", 0, 1]
        one = Bench(sieve(), WIDE, damages)
        one.put(change)
        damages[1].append(2)
        change[2] = 2
        self.check(one)
        self.same(one.standing, ((1, ("order", 0, 1)),))

    def test_verdicts(self):
        one = Bench(four_holds(), Rule.at(point(80, 0)), ((3,),))
        kinds = []
        for step in (None, ORDERS[0], ORDERS[1], 1):
            if isinstance(step, int):
                one.take_back(step)
            elif step is not None:
                one.put(step)
            got = one.verdict_now()
            kinds.append(type(got).__name__)
            if isinstance(got, Safe):
                self.assertIsNone(tree_fault(one.ship, one.rule, one.damages, got.trees))
            else:
                self.assertIsNone(lost_fault(one.ship, one.rule, one.damages, got))
        self.same(kinds, ["Lost", "Safe", "Lost", "Lost"])
        self.same(len(one.log), 3)

    def test_a_verdict_of_too_many_rows(self):
        rows = [hold(4 * at - 12, 4 * at - 8, 1, "1/2", 100) for at in range(6)]
        ports = [(at, r(4 * at - 10), r(0)) for at in (0, 2, 3, 5)]
        ship = Ship(rows, [r(0)] * 5, [(r(0), r(100))], (r(1), r(0)), [], ports)
        self.refused(TooMany, {"most": 3000}, Bench(ship, Rule.at(point(40, 0)), ((),)).verdict_now)

    def test_ships_without_anything_to_change(self):
        one = Bench(one_hold(), box(0, 60, 0, 0), ((0,),))
        self.same(one.put(("lighter", r(40))), 1)
        self.assertIs(type(one.verdict_now()), Safe)


class Refused(Checked):
    def test_damages(self):
        for index, what, thing in NO_DAMAGES:
            self.refused(BadDamages, {"index": index, "what": what}, Bench, three_holds(), LINE, thing)

    def test_a_refused_call_changes_nothing(self):
        one = bench()
        for change in POOL[:4]:
            one.put(change)
        one.take_back(2)
        before = state(one), one.ship, one.rule
        for what, change in WRONG:
            self.refused(BadChange, {"index": 0, "what": what}, one.put, change)
            self.same_bench(one, *before)
        for number in (*NO_WHOLES, 0, -1, 2, 5, 1.0):
            self.refused(NoChange, {"number": number}, one.take_back, number)
            self.same_bench(one, *before)
        self.same(one.put(POOL[4]), 5)

    def test_true_is_no_number(self):
        one = bench()
        one.put(POOL[0])
        self.refused(NoChange, {"number": True}, one.take_back, True)
        one.take_back(1)
        self.refused(NoChange, {"number": 1}, one.take_back, 1)


class Trials(Checked):
    def begun(self):
        one = bench()
        one.put(POOL[0])
        one.put(POOL[3])
        return one, (state(one), one.ship, one.rule)

    def test_a_block(self):
        one, before = self.begun()
        with one.trial() as held:
            self.assertIs(held, one)
            self.same(held.put(POOL[10]), 3)
            held.take_back(1)
            self.check(one)
            self.same([number for number, _ in one.standing], [2, 3])
        self.same_bench(one, *before)
        # The numbers given are as before, too.
        self.same(one.put(POOL[11]), 3)
        self.check(one)

    def test_an_error_goes_on(self):
        one, before = self.begun()
        with self.assertRaises(Broken):
            with one.trial() as held:
                held.put(POOL[10])
                raise Broken
        self.same_bench(one, *before)
        with self.assertRaises(NoChange):
            with one.trial():
                one.put(POOL[10])
                one.take_back(99)
        self.same_bench(one, *before)

    def test_left_by_return(self):
        one, before = self.begun()

        def left():
            with one.trial() as held:
                return held.put(POOL[5])
        self.same(left(), 3)
        self.same_bench(one, *before)

    def test_a_trial_in_a_trial(self):
        one, before = self.begun()
        with one.trial() as held:
            held.put(POOL[10])
            inner = state(one), one.ship, one.rule
            with held.trial() as again:
                again.put(POOL[11])
                again.take_back(3)
                with self.assertRaises(Broken):
                    with again.trial():
                        again.take_back(1)
                        raise Broken
                self.same([number for number, _ in one.standing], [1, 2, 4])
                self.check(one)
            self.same_bench(one, *inner)
            held.tried(lambda bench_now: bench_now.put(POOL[7]))
            self.same_bench(one, *inner)
        self.same_bench(one, *before)

    def test_as_it_was_when_the_block_was_entered(self):
        one, _ = self.begun()
        trial = one.trial()
        one.put(POOL[7])
        before = state(one), one.ship, one.rule
        with trial:
            one.take_back(1)
        self.same_bench(one, *before)

    def test_one_trial_behind_another(self):
        one, before = self.begun()
        for change in POOL:
            with one.trial():
                self.same(one.put(change), 3)
            self.same_bench(one, *before)

    def test_tried(self):
        one, before = self.begun()
        self.same(one.tried(lambda held: (held is one, held.put(POOL[6]), len(held))), (True, 3, 3))
        self.same_bench(one, *before)
        self.assertIsNone(one.tried(lambda held: held.take_back(2)))
        self.same_bench(one, *before)

        def broken(held):
            held.put(POOL[6])
            raise Broken
        with self.assertRaises(Broken):
            one.tried(broken)
        self.same_bench(one, *before)
        with self.assertRaises(BadChange):
            one.tried(lambda held: held.put(None))
        self.same_bench(one, *before)

    def test_two_benches_are_apart(self):
        one, before = self.begun()
        other = Bench(two_holds(), WIDE, ((),))
        with one.trial():
            other.put(("order", 0, 1))
            one.put(POOL[6])
        self.same_bench(one, *before)
        self.same(other.standing, ((1, ("order", 0, 1)),))


if __name__ == "__main__":
    unittest.main()
