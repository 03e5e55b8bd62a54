import unittest
from fractions import Fraction

from dryholds.charts import Chart, Piece, chart_of
from dryholds.errors import BadCargo, BadDamages, BadNumber, OutsideRule
from dryholds.polygons import polygon_of
from dryholds.rays import cargo_at
from dryholds.rules import Rule
from dryholds.verdict import is_safe
from dryholds.wrongs import wrongs_of
from tests.helpers import NO_WHOLES, Case, all_lots_of, four_holds, half, have_common, one_hold, point, points, r, rs
from tests.helpers import three_holds
from tests.test_cells import is_in
from tests.test_damages import NO_DAMAGES
from tests.test_postures import NO_CARGOES
from tests.test_rows import LINE, all_orders, halves_along, small_rules
from tests.walks import SHIPS, box, corners_and_more, first_lost_row, rocker, some_ships, tipping, walk, wrong_names

RULE = box(0, 60, -100, 100)
DAMAGES = ((), (0,))


def example():
    """The chart of the example of part 7."""
    return chart_of(one_hold(), RULE, DAMAGES)


def told(piece):
    things = vars(piece)
    return {name: things[name] for name in things if name != "halves"}


def pieces_by_rows(ship, rule, damages):
    """Rows (number, damage, floods, wrong, half-planes), by every order of floods."""
    rows = []
    for number, damage in enumerate(damages):
        for floods, lot in all_orders(ship, damage):
            halves = halves_along(ship, rule, damage, floods)
            if have_common(halves):
                rows += [(number, damage, floods, name, (*halves, one)) for name, one in wrongs_of(ship, lot)
                         if have_common((*halves, one))]
    return rows


class Pieces(Case):
    def test_attributes(self):
        piece = Piece(number=1, damage=[0], floods=[[1, ["port", 0]]], wrong=("mark", 0), halves=[half(1, 0, 0)],
                      corners=[point(0, 0)])
        self.same(told(piece), {"number": 1, "damage": (0,), "floods": ((1, ("port", 0)),), "wrong": ("mark", 0),
                                "corners": points((0, 0))})
        self.assertEqual(piece.halves, (half(1, 0, 0),))

    def test_equal(self):
        things = (1, (0,), (), ("mark", 0), (half(1, 0, 0),), points((0, 0)))
        self.assertTrue(Piece(*things) == Piece(*things))
        others = (0, (1,), ((1, ("port", 0)),), ("mark", 1), (half(1, 0, 0, True),), ())
        for at, other in enumerate(others):
            self.assertFalse(Piece(*things) == Piece(*things[:at], other, *things[at + 1:]))
        self.assertFalse(Piece(*things) == None)  # noqa: E711
        self.assertFalse(Piece(*things) == things)

    def test_couples_on_the_line_of_a_half_plane(self):
        mark = example().pieces[2]
        self.same(mark.wrong, ("mark", 0))
        for cargo, inside in ((point(40, 0), False), (point("401/10", 0), True), (point(60, 100), True),
                              (point(61, 0), False), (point(50, "1001/10"), False), (point(50, -100), True)):
            self.same(cargo in mark, inside)
        self.same(list(point(50, 0)) in mark, True)


class Charts(Case):
    def test_the_example(self):
        chart = example()
        self.same([(piece.number, piece.damage, piece.floods, piece.wrong, piece.corners) for piece in chart.pieces],
                  [(0, (), (), ("keel", 0), points((0, 0), (30, 100), (0, 100))),
                   (0, (), (), ("keel", 1), points((0, -100), (30, -100), (0, 0))),
                   (1, (0,), (), ("mark", 0), points((40, -100), (60, -100), (60, 100), (40, 100))),
                   (1, (0,), (), ("keel", 0), points((0, 0), (30, 100), (0, 100))),
                   (1, (0,), (), ("keel", 1), points((0, -100), (30, -100), (0, 0)))])
        last = chart.pieces[2].halves[-1]
        self.same((last.p, last.q, last.r, last.strict), (*rs("1/10", 0, 4), True))

    def test_attributes(self):
        chart = chart_of(one_hold(), RULE, [[], [0]])
        self.assertEqual((chart.ship, chart.rule), (one_hold(), RULE))
        self.same(chart.damages, DAMAGES)
        self.assertIs(type(chart.pieces), tuple)
        self.same((len(chart), list(chart) == list(chart.pieces)), (5, True))
        self.assertIs(type(chart.pieces[0]), Piece)

    def test_every_piece(self):
        found = 0
        for ship in SHIPS + tuple(some_ships(91, 8)):
            lots = all_lots_of(len(ship))
            for rule in small_rules(ship):
                damages = (lots[0], lots[1], lots[0])
                wanted = pieces_by_rows(ship, rule, damages)
                chart = chart_of(ship, rule, damages)
                self.same([told(piece) for piece in chart],
                          [{"number": number, "damage": damage, "floods": floods, "wrong": wrong,
                            "corners": polygon_of(halves)} for number, damage, floods, wrong, halves in wanted])
                self.assertEqual([piece.halves for piece in chart], [halves for *_, halves in wanted])
                self.same(chart.is_safe, not wanted)
                self.same(chart.is_safe, is_safe(ship, rule, damages))
                found += len(wanted)
        self.assertGreater(found, 300)

    def test_cargo_by_cargo(self):
        lost = 0
        for ship in SHIPS + tuple(some_ships(92, 5)):
            lots = all_lots_of(len(ship))
            damages = (lots[0], lots[1], lots[0])
            for rule in small_rules(ship):
                chart = chart_of(ship, rule, damages)
                for cargo in corners_and_more(rule):
                    numbers = tuple(at for at, damage in enumerate(damages) if first_lost_row(ship, damage, cargo))
                    pieces = tuple(at for at, piece in enumerate(chart.pieces) if is_in(cargo, piece.halves))
                    self.same(chart.loses(list(cargo)), len(numbers) > 0)
                    self.same(chart.damages_at(list(cargo)), numbers)
                    self.same(chart.pieces_at(list(cargo)), pieces)
                    walked = [(number, floods, name) for number, damage in enumerate(damages)
                              for floods, lot in walk(ship, damage, cargo) for name in wrong_names(ship, lot, cargo)]
                    self.same([(piece.number, piece.floods, piece.wrong)
                               for piece in [chart.pieces[at] for at in pieces]], walked)
                    lost += len(numbers) > 0
        self.assertGreater(lost, 100)

    def test_a_greater_load_is_lost_too(self):
        for ship in SHIPS:
            rule = box(0, 2000, -9000, 9000)
            chart = chart_of(ship, rule, ((), (0,)))
            for cargo in (point(3, 1), point(20, -9), point(50, 30), point(9, 60)):
                more = [chart.loses(cargo_at(ship, cargo, r(factor))) for factor in (1, "3/2", 2, 5)]
                self.same(more, sorted(more))

    def test_equal(self):
        chart = example()
        self.assertTrue(chart == Chart(one_hold(), RULE, DAMAGES, ()))
        self.assertTrue(Chart(one_hold(), RULE, [[], [0]], []) == chart)
        for other in (Chart(four_holds(), RULE, DAMAGES, chart.pieces), Chart(one_hold(), LINE, DAMAGES, chart.pieces),
                      Chart(one_hold(), RULE, ((0,), ()), chart.pieces), None, chart.pieces):
            self.assertFalse(chart == other)

    def test_a_chart_checks_nothing(self):
        pieces, damages = list(example().pieces), [[0], []]
        chart = Chart(ship=one_hold(), rule=RULE, damages=damages, pieces=pieces)
        pieces.append("more")
        damages[0].append("more")
        self.same((chart.damages, len(chart), type(chart.pieces)), (((0,), ()), 5, tuple))
        self.same(Chart(one_hold(), RULE, DAMAGES, ()).is_safe, True)
        self.same(chart.is_safe, False)

    def test_ships_that_tip_and_rules_of_one_cargo(self):
        chart = chart_of(tipping(2000), Rule.at(point(5, 5)), ((0, 1), ()))
        self.same([(piece.number, piece.wrong, piece.corners) for piece in chart][:1],
                  [(0, ("tips",), points((5, 5)))])
        self.same(chart.damages_at(point(5, 5))[0], 0)
        self.same(len(chart_of(one_hold(), Rule.at(point(0, 0)), DAMAGES)), 0)
        self.same(len(chart_of(one_hold(), Rule.at(point(0, 1)), DAMAGES)), 2)

    def test_touching_edges_and_marks(self):
        # Weight 40 touches the mark, 20 the ports.
        self.same(chart_of(one_hold(), box(0, 40, 0, 0), DAMAGES).is_safe, True)
        self.same(len(chart_of(one_hold(), box(0, Fraction(401, 10), 0, 0), DAMAGES)), 1)
        chart = chart_of(rocker(), box(20, 20, 0, 0), ((),))
        self.same(chart.is_safe, True)


class OfDamage(Case):
    def test_one_damage_alone(self):
        for ship in SHIPS:
            rule = small_rules(ship)[3]
            damages = ((), (0,), ())
            chart = chart_of(ship, rule, damages)
            for number, damage in enumerate(damages):
                alone = chart.of_damage(number)
                self.assertIs(type(alone), Chart)
                self.assertEqual(alone, chart_of(ship, rule, (damage,)))
                self.assertEqual(alone.pieces, chart_of(ship, rule, (damage,)).pieces)
                self.same(alone.damages, (damage,))
            self.same([piece.number for piece in chart], sorted(piece.number for piece in chart))

    def test_errors(self):
        for thing in (*NO_WHOLES, -1, 2, 1.0):
            self.refused(BadNumber, {"number": thing}, example().of_damage, thing)


class Errors(Case):
    def test_damages(self):
        for index, what, thing in NO_DAMAGES:
            self.refused(BadDamages, {"index": index, "what": what}, chart_of, three_holds(), LINE, thing)

    def test_cargoes(self):
        chart = example()
        for call in (chart.loses, chart.pieces_at, chart.damages_at):
            for what, thing in NO_CARGOES:
                self.refused(BadCargo, {"what": what}, call, thing)
            for cargo in (point(61, 0), point(5, 101), point("601/10", 0), list(point(0, -101))):
                self.refused(OutsideRule, {}, call, cargo)
        self.same(chart.loses(point(60, 100)), True)

    def test_the_area_of_the_example(self):
        # The share of the damage () is 1/4, told by couples halfway within a grid.
        chart, lost = example(), 0
        for weight in range(1, 120, 2):
            for moment in range(-199, 200, 2):
                lost += 0 in chart.damages_at((r(weight, 2), r(moment, 2)))
        self.assertLess(abs(Fraction(lost, 60 * 200) - Fraction(1, 4)), Fraction(1, 100))


if __name__ == "__main__":
    unittest.main()
