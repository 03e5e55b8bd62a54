import unittest

from dryholds.damages import check_damages, damage_runs
from dryholds.errors import BadDamages, BadMost
from tests.helpers import NO_SEQUENCES, NO_WHOLES, Case, all_lots_of, four_holds, one_hold, six_holds, three_holds
from tests.test_lots import NO_LOTS

# (index, word, what is passed): what is no sequence of damages of a ship of three holds.
NO_DAMAGES = tuple([(0, "many", thing) for thing in (*NO_SEQUENCES, (), [], [()] * 41, ["x"] * 41)]
                   + [(1, "lot", ((0,), thing)) for thing in NO_LOTS]
                   + [(0, "lot", ([3], None)), (2, "lot", [(), (0, 1), (1, 0), (9,)]), (39, "lot", [()] * 39 + [(3,)])])


class CheckDamages(Case):
    def test_damages(self):
        ship = three_holds()
        for damages in (((),), ((0,), (0,)), ((2,), (), (0, 1, 2)), tuple(all_lots_of(3) * 5), ((1,),) * 40):
            self.same(check_damages(ship, damages), damages)
            self.same(check_damages(ship, [list(lot) for lot in damages]), damages)

    def test_later_changes_have_no_effect(self):
        given = [[0], [1, 2]]
        damages = check_damages(three_holds(), given)
        given[0].append("more")
        given.append("more")
        self.same(damages, ((0,), (1, 2)))

    def test_errors(self):
        for index, what, thing in NO_DAMAGES:
            self.refused(BadDamages, {"index": index, "what": what}, check_damages, three_holds(), thing)


class DamageRuns(Case):
    def test_runs(self):
        self.same(damage_runs(four_holds(), 0), ((),))
        self.same(damage_runs(four_holds(), 1), ((), (0,), (1,), (2,), (3,)))
        self.same(damage_runs(four_holds(), 3),
                  ((), (0,), (1,), (2,), (3,), (0, 1), (1, 2), (2, 3), (0, 1, 2), (1, 2, 3)))
        self.same(damage_runs(one_hold(), 1), ((), (0,)))
        for ship in (one_hold(), three_holds(), four_holds(), six_holds()):
            runs = [lot for lot in all_lots_of(len(ship)) if not lot or lot[-1] - lot[0] == len(lot) - 1]
            for most in range(len(ship) + 1):
                self.same(damage_runs(ship, most), tuple(lot for lot in runs if len(lot) <= most))

    def test_errors(self):
        for thing in (*NO_WHOLES, -1, 5, 100):
            self.refused(BadMost, {"most": thing}, damage_runs, four_holds(), thing)
        self.refused(BadMost, {"most": 2}, damage_runs, one_hold(), 2)


if __name__ == "__main__":
    unittest.main()
