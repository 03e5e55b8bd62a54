import unittest

from dryholds.errors import BadCargo, BadHold, BadLot, BadPlace
from dryholds.lots import all_lots, check_cargo, check_hold, check_lot, check_place, lot_with
from tests.helpers import BIG, NO_RATIOS, NO_SEQUENCES, NO_WHOLES, Case, all_lots_of, four_holds, one_hold, r, six_holds
from tests.helpers import three_holds

NO_LOTS = (*NO_SEQUENCES, (0, 0), (1, 0), (3,), (-1,), (0, 3), (0, 2, 1), [2, 2], (0, 1, 2, 3), ("0",), (0, 1.0),
           (True,), (0, True), (False,), [False, True, 2], ((0,),), (None,))


class Checks(Case):
    def test_lots(self):
        for lot in all_lots_of(3):
            self.same(check_lot(three_holds(), lot), lot)
            self.same(check_lot(three_holds(), list(lot)), lot)
        self.same(check_lot(one_hold(), []), ())

    def test_no_lots(self):
        for thing in NO_LOTS:
            self.refused(BadLot, {}, check_lot, three_holds(), thing)
        for thing in NO_WHOLES:
            self.refused(BadLot, {}, check_lot, three_holds(), (thing,))
        self.refused(BadLot, {}, check_lot, one_hold(), (1,))

    def test_a_later_change_of_a_lot_has_no_effect(self):
        given = [0, 2]
        lot = check_lot(three_holds(), given)
        given.append("more")
        self.same(lot, (0, 2))

    def test_cargoes(self):
        for cargo in ((r(0), r(0)), (r("7/2"), r(-3)), ((1, BIG), (-BIG, 1))):
            self.same(check_cargo(cargo), cargo)
            self.same(check_cargo(list(cargo)), cargo)

    def test_no_cargoes(self):
        for thing in (*NO_SEQUENCES, (), (r(1),), (r(1), r(1), r(1)), ["x"]):
            self.refused(BadCargo, {"what": "pair"}, check_cargo, thing)
        for thing in (r(-1), (-1, BIG), *NO_RATIOS):
            self.refused(BadCargo, {"what": "weight"}, check_cargo, (thing, r(0)))
            self.refused(BadCargo, {"what": "weight"}, check_cargo, [thing, "no moment"])
        for thing in NO_RATIOS:
            self.refused(BadCargo, {"what": "moment"}, check_cargo, (r(0), thing))

    def test_holds(self):
        for ship in (one_hold(), three_holds(), six_holds()):
            for hold in range(len(ship)):
                self.same(check_hold(ship, hold), hold)
            for thing in (len(ship), -1, r(0), *NO_WHOLES):
                self.refused(BadHold, {"hold": thing}, check_hold, ship, thing)

    def test_places(self):
        for place in (r(0), r(-5000), (1, BIG)):
            self.same(check_place(place), place)
        for thing in NO_RATIOS:
            self.refused(BadPlace, {"place": thing}, check_place, thing)


class Lots(Case):
    def test_all_lots(self):
        self.same(list(all_lots(one_hold())), [(), (0,)])
        self.same(list(all_lots(three_holds())), [(), (0,), (1,), (2,), (0, 1), (0, 2), (1, 2), (0, 1, 2)])
        for ship in (four_holds(), six_holds()):
            self.same(list(all_lots(ship)), all_lots_of(len(ship)))

    def test_it_yields(self):
        lots = all_lots(one_hold())
        self.assertIs(iter(lots), lots)
        self.same([next(lots), next(lots)], [(), (0,)])

    def test_one_more_hold(self):
        self.same(lot_with(three_holds(), (), 1), (1,))
        self.same(lot_with(three_holds(), [1], 0), (0, 1))
        self.same(lot_with(three_holds(), (0, 2), 1), (0, 1, 2))
        self.same(lot_with(three_holds(), (0, 1), 2), (0, 1, 2))
        for lot in all_lots_of(6):
            for hold in range(6):
                if hold not in lot:
                    self.same(lot_with(six_holds(), lot, hold), tuple(sorted(lot + (hold,))))

    def test_refusals(self):
        for thing in NO_LOTS:
            self.refused(BadLot, {}, lot_with, three_holds(), thing, "no hold")
        for thing in (3, -1, 0, 2, r(1), *NO_WHOLES):
            self.refused(BadHold, {"hold": thing}, lot_with, three_holds(), (0, 2), thing)

    def test_what_is_passed_stays(self):
        given = [0, 2]
        lot_with(three_holds(), given, 1)
        self.same(given, [0, 2])


if __name__ == "__main__":
    unittest.main()
