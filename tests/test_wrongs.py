import unittest
from fractions import Fraction

from dryholds.errors import BadCargo, BadLot
from dryholds.postures import line_row
from dryholds.wrongs import first_wrong, wrongs_of
from tests.helpers import Case, all_lots_of, f, half, negated, one_hold, point, r, rs, three_holds
from tests.test_floods import LITTLE, told, with_line
from tests.test_lots import NO_LOTS
from tests.test_postures import NO_CARGOES
from tests.walks import LARGE, SHIPS, height, some_cargoes, some_ships, tipping, tips, two_holds, wrong_ends
from tests.walks import wrong_names


class WrongsOf(Case):
    def test_the_ship_of_one_hold_by_hand(self):
        # Dry, her line has s = w / 20 and t = 3 m / 2000.
        wanted = [(("mark", 0), *rs("1/20", 0, 4), True),
                  (("deck", 0, 0), *rs("1/20", "-3/200", 10), True), (("deck", 0, 1), *rs("1/20", "3/200", 10), True),
                  (("keel", 0), *rs("-1/20", "3/200", 0), True), (("keel", 1), *rs("-1/20", "-3/200", 0), True)]
        self.same(told(wrongs_of(one_hold(), ())), wanted)
        self.same(told(wrongs_of(one_hold(), [])), wanted)
        self.assertIs(type(wrongs_of(one_hold(), ())), tuple)
        self.assertIs(type(wrongs_of(one_hold(), ())[0]), tuple)

    def test_every_wrong_end_of_every_lot(self):
        for ship in SHIPS + LARGE + tuple(some_ships(4, 12)):
            for lot in all_lots_of(len(ship)):
                if tips(ship, lot):
                    continue
                wanted = []
                for name, place, bound, way in wrong_ends(ship, lot):
                    row = line_row(ship, lot, r(place))
                    p, q, rest = row if way == 1 else negated(row)
                    wanted.append((name, p, q, r(way * bound - f(rest)), True))
                self.same(told(wrongs_of(ship, lot)), wanted)

    def test_the_order_of_names(self):
        self.same([name for name, _ in wrongs_of(three_holds(), (1,))],
                  [("mark", 0), ("mark", 1), ("mark", 2), ("deck", 0, 0), ("deck", 0, 1), ("deck", 1, 0),
                   ("deck", 1, 1), ("deck", 2, 0), ("deck", 2, 1), ("keel", 0), ("keel", 1)])

    def test_a_lot_that_tips(self):
        for lot in ((0, 1), [0, 1, 2]):
            self.same(told(wrongs_of(tipping(2000), lot)), [(("tips",), *rs(0, 0, -1), True)])
        self.assertEqual(wrongs_of(tipping(2000), (0, 1)), ((("tips",), half(0, 0, -1, True)),))

    def test_errors(self):
        for thing in NO_LOTS:
            self.refused(BadLot, {}, wrongs_of, three_holds(), thing)
            self.refused(BadLot, {}, first_wrong, three_holds(), thing, None)
        for what, thing in NO_CARGOES:
            self.refused(BadCargo, {"what": what}, first_wrong, three_holds(), (0,), thing)
            self.refused(BadCargo, {"what": what}, first_wrong, tipping(2000), (0, 1, 2), thing)


class FirstWrong(Case):
    def test_by_every_height(self):
        found = {}
        for at, ship in enumerate(SHIPS + LARGE + tuple(some_ships(5, 30))):
            for lot in all_lots_of(len(ship)):
                for cargo in some_cargoes(ship, at, 6):
                    wanted = (wrong_names(ship, lot, cargo) + [None])[0]
                    self.same(first_wrong(ship, lot, cargo), wanted)
                    self.same(first_wrong(ship, list(lot), list(cargo)), wanted)
                    found[wanted and wanted[0]] = True
        self.assertEqual(set(found), {None, "mark", "deck", "keel", "tips"})

    def test_touching_is_right(self):
        touched = 0
        for ship in SHIPS + tuple(some_ships(6, 12)):
            for lot in all_lots_of(len(ship)):
                for name, place, bound, way in () if tips(ship, lot) else wrong_ends(ship, lot):
                    for slope in (0, Fraction(1, 11), Fraction(-1, 8)):
                        cargoes = [with_line(ship, lot, place, bound + way * by, slope) for by in (LITTLE, 0, -LITTLE)]
                        if min(f(weight) for weight, _ in cargoes) >= 0:
                            touched += 1
                            self.touch(ship, lot, name, cargoes)
        self.assertGreater(touched, 500)

    def touch(self, ship, lot, name, cargoes):
        halves = dict(wrongs_of(ship, lot))
        self.same([halves[name].holds_cargo(cargo) for cargo in cargoes], [True, False, False])
        self.assertIn(name, wrong_names(ship, lot, cargoes[0]))

    def test_a_line_that_just_touches_deck_and_mark_by_hand(self):
        # The level line of weight w stands at w / 20; the mark is at 5, the decks at 6.
        self.assertIsNone(first_wrong(two_holds(), (), point(100, 0)))
        self.same(first_wrong(two_holds(), (), point(101, 0)), ("mark", 0))
        # s = 4 and t = 1/5: the line stands at 6 over place 10.
        self.assertIsNone(first_wrong(two_holds(), (), point(80, "400/3")))
        self.assertEqual(height(two_holds(), (), point(80, "400/3"), 10), 6)
        self.same(first_wrong(two_holds(), (), point(80, "401/3")), ("deck", 1, 1))
        self.same(first_wrong(two_holds(), (), point(80, "-401/3")), ("deck", 0, 0))
        self.assertIsNone(first_wrong(two_holds(), (), point(0, 0)))
        self.same(first_wrong(two_holds(), (), point(0, 1)), ("keel", 0))
        self.same(first_wrong(two_holds(), (), point(0, -1)), ("keel", 1))


if __name__ == "__main__":
    unittest.main()
