import unittest

from dryholds.errors import BadCargo, BadLot
from dryholds.forks import Fork, Joined, meeting_fault, meeting_of
from tests.helpers import Case, four_holds, point, three_holds
from tests.test_lots import NO_LOTS
from tests.test_lotsfrom import cases
from tests.test_postures import NO_CARGOES
from tests.test_ways import open_sea, ways_by_walk
from tests.walks import ends_by_walk, floods_now, lots_by_walk, rocker, tipping


def with_one(lot, number):
    return tuple(sorted((*lot, number)))


def couples(ship, damage, cargo):
    rows = []
    for lot in lots_by_walk(ship, damage, cargo):
        holds = sorted({number for number, _ in floods_now(ship, lot, cargo)})
        rows += [(lot, one, other) for one in holds for other in holds if one < other]
    return rows


def meeting_by_walk(ship, damage, cargo):
    """A Joined or a Fork, by walks of its own from each lot."""
    rows = []
    for lot, one, other in couples(ship, damage, cargo):
        one_ways = ways_by_walk(ship, with_one(lot, one), cargo)
        other_ways = ways_by_walk(ship, with_one(lot, other), cargo)
        both = sorted(set(one_ways) & set(other_ways), key=lambda found: (len(found), found))
        if not both:
            lots = [tuple(sorted(ways, key=lambda found: (len(found), found))) for ways in (one_ways, other_ways)]
            return Fork(lot, one, other, *lots)
        rows.append((lot, one, other, one_ways[both[0]][0], other_ways[both[0]][0]))
    return Joined(tuple(rows))


class Results(Case):
    def test_joined(self):
        self.same(vars(Joined(rows=())), {"rows": ()})
        self.assertTrue(Joined(((), 0, 1, (), ())) == Joined(((), 0, 1, (), ())))
        for other in (Joined(()), Fork((), 0, 1, (), ()), None, (((), 0, 1, (), ()),)):
            self.assertFalse(Joined(((), 0, 1, (), ())) == other)

    def test_fork(self):
        fork = Fork(lot=(), one=0, other=1, one_lots=((0,),), other_lots=((1,),))
        self.same(vars(fork), {"lot": (), "one": 0, "other": 1, "one_lots": ((0,),), "other_lots": ((1,),)})
        self.assertTrue(fork == Fork((), 0, 1, ((0,),), ((1,),)))
        for other in (Fork((2,), 0, 1, ((0,),), ((1,),)), Fork((), 2, 1, ((0,),), ((1,),)),
                      Fork((), 0, 2, ((0,),), ((1,),)), Fork((), 0, 1, (), ((1,),)), Fork((), 0, 1, ((0,),), ()),
                      Joined(()), None):
            self.assertFalse(fork == other)


class Meetings(Case):
    def test_by_walks(self):
        forks = met = 0
        for ship, damage, cargo in cases(31, 40):
            wanted = meeting_by_walk(ship, damage, cargo)
            got = meeting_of(ship, list(damage), list(cargo))
            self.same(vars(got), vars(wanted))
            self.assertIs(type(got), type(wanted))
            self.assertIsNone(meeting_fault(ship, list(damage), list(cargo), got))
            # There are several ends exactly if there is a fork.
            self.same(isinstance(got, Fork), len(ends_by_walk(ship, damage, cargo)) > 1)
            forks += isinstance(got, Fork)
            met += isinstance(got, Joined) and len(got.rows) > 0
        self.assertGreater(forks, 5)
        self.assertGreater(met, 30)

    def test_by_hand(self):
        self.assertEqual(meeting_of(rocker(), (), point(20, 0)), Fork((), 0, 1, ((0,),), ((1,),)))
        self.assertEqual(meeting_of(rocker(), (), point("55/2", 0)), Joined((((), 0, 1, (1,), (0,)),)))
        self.assertEqual(meeting_of(four_holds(), (3,), point(80, 0)), Joined(()))
        self.assertEqual(meeting_of(tipping(2000), (0, 1), point(80, 0)), Joined(()))

    def test_rows_of_all_orders(self):
        rows = meeting_of(open_sea(3), (), point(40, 0)).rows
        self.same(rows, (((), 0, 1, (1,), (0,)), ((), 0, 2, (2,), (0,)), ((), 1, 2, (2,), (1,)),
                         ((0,), 1, 2, (2,), (1,)), ((1,), 0, 2, (2,), (0,)), ((2,), 0, 1, (1,), (0,))))


class JoinedFaults(Case):
    SHIP = open_sea(3)
    CARGO = point(40, 0)
    ROWS = meeting_of(open_sea(3), (), point(40, 0)).rows

    def fault(self, rows):
        return meeting_fault(self.SHIP, (), self.CARGO, Joined(rows))

    def changed(self, index, *row):
        return self.ROWS[:index] + (row,) + self.ROWS[index + 1:]

    def test_any_ways_that_meet_are_let(self):
        self.assertIsNone(self.fault(self.ROWS))
        self.assertIsNone(self.fault(self.changed(0, (), 0, 1, (1, 2), (2, 0))))
        self.assertIsNone(self.fault(self.changed(2, (), 1, 2, (0, 2), (1, 0))))

    def test_couples(self):
        for rows in ((), self.ROWS[:-1], self.ROWS + self.ROWS[-1:], self.ROWS[::-1], self.ROWS[1:] + self.ROWS[:1],
                     self.changed(1, (), 0, 2, (2,)), self.changed(1, (), 0, 2, (2,), (0,), ()), self.changed(1),
                     self.changed(1, (), 2, 0, (0,), (2,)), self.changed(1, (1,), 0, 2, (2,), (0,)),
                     self.changed(0, (), False, 1, (1,), (0,)), self.changed(0, (), 0, True, (1,), (0,)),
                     self.changed(4, (True,), 0, 2, (2,), (0,)), self.ROWS[:2] + (None,) + self.ROWS[3:]):
            self.same(self.fault(rows), "couples")

    def test_ways(self):
        for one_way, other_way in (((0,), (0,)), ((1,), (1,)), ((1, 1), (0,)), ((3,), (0,)), ((True,), (0,)),
                                   ((1,), (False,)), (None, (0,)), ((1,), 0), ((2, 1, 0), (0,)), ((None,), (0,))):
            self.same(self.fault(self.changed(0, (), 0, 1, one_way, other_way)), "way")

    def test_met(self):
        for one_way, other_way in (((), ()), ((1,), (0, 2)), ((2,), (2,)), ((2, 1), (0,))):
            self.same(self.fault(self.changed(0, (), 0, 1, one_way, other_way)), "met")

    def test_the_first_word_where_two_faults_stand(self):
        both = self.changed(0, (), 0, 1, (), ())
        self.same(self.fault(both[:2] + (((), 1, 2, (1,), ()),) + both[3:]), "met")
        both = self.changed(2, (), 1, 2, (), ())
        self.same(self.fault((((), 0, 1, (0,), ()),) + both[1:]), "way")
        self.same(self.fault(both[:-1]), "couples")
        self.same(self.fault(both[:-1] + (((2,), 0, 0, (1,), (0,)),)), "couples")
        self.same(self.fault(self.changed(0, (), 0, 1, (2,), (1,))), "way")


class ForkFaults(Case):
    def fault(self, *things, cargo=point(20, 0), ship=rocker()):
        return meeting_fault(ship, (), cargo, Fork(*things))

    def test_a_right_one(self):
        self.assertIsNone(self.fault((), 0, 1, ((0,),), ((1,),)))

    def test_each_word(self):
        for lot in ((0, 1), (2,), (True,), None, 0, (1, 0), "x"):
            self.same(self.fault(lot, 0, 1, ((0,),), ((1,),)), "lot")
        for one, other in ((1, 0), (0, 0), (0, 2), (-1, 1), (False, 1), (0, True), (None, 1), ((0,), 1)):
            self.same(self.fault((), one, other, ((0,),), ((1,),)), "holds")
        for one_lots, other_lots in (((), ((1,),)), (((0,),), ()), (((1,),), ((0,),)), (((0,), (0, 1)), ((1,),)),
                                     (((False,),), ((1,),)), (((0,),), ((True,),)), (None, ((1,),))):
            self.same(self.fault((), 0, 1, one_lots, other_lots), "lots")
        self.same(self.fault((), 0, 1, ((0,), (0, 1)), ((1,), (0, 1)), cargo=point("55/2", 0)), "met")

    def test_the_first_word_where_two_faults_stand(self):
        self.same(self.fault((0, 1), 1, 0, (), ()), "lot")
        self.same(self.fault((0,), 0, 1, ((0,),), ((1,),)), "holds")
        self.same(self.fault((), 1, 0, (), ()), "holds")
        self.same(self.fault((), 0, 1, ((0, 1), (0,)), ((1,), (0, 1)), cargo=point("55/2", 0)), "lots")

    def test_a_joined_where_there_is_a_fork(self):
        self.same(meeting_fault(rocker(), (), point(20, 0), Joined((((), 0, 1, (), ()),))), "met")
        self.same(meeting_fault(rocker(), (), point(20, 0), Joined(())), "couples")


class Errors(Case):
    def test_in_their_order(self):
        for thing in NO_LOTS:
            self.refused(BadLot, {}, meeting_of, three_holds(), thing, None)
            self.refused(BadLot, {}, meeting_fault, three_holds(), thing, None, Joined(()))
            self.refused(BadLot, {}, meeting_fault, three_holds(), thing, None, Fork((), 0, 1, (), ()))
        for what, thing in NO_CARGOES:
            self.refused(BadCargo, {"what": what}, meeting_of, three_holds(), (0,), thing)
            self.refused(BadCargo, {"what": what}, meeting_fault, three_holds(), (0,), thing, Joined(()))
            self.refused(BadCargo, {"what": what}, meeting_fault, three_holds(), (0,), thing, Fork((), 0, 1, (), ()))


if __name__ == "__main__":
    unittest.main()
