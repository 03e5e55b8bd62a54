import unittest
from fractions import Fraction

from dryholds.areas import damage_shares, depth_shares, lost_share, safe_polygons, safe_share
from dryholds.charts import Chart, Piece, chart_of
from dryholds.errors import NoArea
from dryholds.polygons import corners_fault, polygon_of
from dryholds.rules import Rule
from tests.helpers import Case, all_lots_of, f, four_holds, half, one_hold, point, points, r, rs
from tests.slices import area_where, common_area, corners_area, fractions_of, is_inside
from tests.test_charts import DAMAGES, RULE, example
from tests.test_rows import small_rules
from tests.walks import SHIPS, box, rocker, some_ships, tipping


def drawn(rule, damages, groups):
    """A chart of a ship with any pieces: a group of lists of half-planes for each damage."""
    pieces = []
    for number, group in enumerate(groups):
        for halves in group:
            row = (*rule.halves, *halves)
            pieces.append(Piece(number, damages[number], (), ("mark", 0), row, polygon_of(row)))
    return Chart(one_hold(), rule, damages, pieces)


def shares_by_slices(chart):
    """(depth shares, damage shares) by all crossings of all lines, slice by slice."""
    halves = [one for piece in chart.pieces for one in piece.halves] + list(chart.rule.halves)
    whole = area_where(lambda couple: is_inside(couple, chart.rule.halves), halves)

    def damages_at(couple):
        return {piece.number for piece in chart.pieces if is_inside(couple, piece.halves)}
    depths = [area_where(lambda couple: is_inside(couple, chart.rule.halves) and len(damages_at(couple)) == many,
                         halves) for many in range(len(chart.damages) + 1)]
    each = [area_where(lambda couple: number in damages_at(couple), halves) for number in range(len(chart.damages))]
    return tuple(r(part / whole) for part in depths), tuple(r(part / whole) for part in each)


def charts(seed, many, most):
    """Charts of small ships with areas, of up to `most` unlike pieces."""
    for ship in SHIPS + tuple(some_ships(seed, many)):
        rule = small_rules(ship)[3]
        lots = all_lots_of(len(ship))
        for damages in ((lots[0],), (lots[1], lots[0]), (lots[1], lots[-1], lots[1])):
            chart = chart_of(ship, rule, damages)
            if len({piece.corners for piece in chart.pieces}) <= most:
                yield chart


SQUARE = box(0, 6, 0, 6)


class Example(Case):
    def test_number_by_number(self):
        chart = example()
        self.same(damage_shares(chart), rs("1/4", "7/12"))
        self.same(depth_shares(chart), rs("5/12", "1/3", "1/4"))
        self.same(lost_share(chart), r("7/12"))
        self.same(safe_share(chart), r("5/12"))
        self.same(safe_polygons(chart), (points((0, 0), (30, -100), (40, -100), (40, 100), (30, 100)),))

    def test_each_damage_alone(self):
        self.same([lost_share(example().of_damage(number)) for number in (0, 1)], [*rs("1/4", "7/12")])
        self.same(depth_shares(example().of_damage(1)), rs("5/12", "7/12"))


class Shares(Case):
    def test_by_slices(self):
        kinds = {}
        for chart in charts(121, 16, 8):
            depths, each = shares_by_slices(chart)
            self.same(depth_shares(chart), depths)
            self.same(damage_shares(chart), each)
            self.same(safe_share(chart), depths[0])
            self.same(lost_share(chart), r(1 - f(depths[0])))
            kinds[(f(depths[0]) == 0, f(depths[0]) == 1)] = kinds.get((f(depths[0]) == 0, f(depths[0]) == 1), 0) + 1
        self.assertGreater(kinds[(False, False)], 8)
        self.assertGreater(kinds[(True, False)], 2)

    def test_the_sums(self):
        some = 0
        for chart in charts(122, 12, 40):
            depths, each = depth_shares(chart), damage_shares(chart)
            self.same((type(depths), len(depths)), (tuple, len(chart.damages) + 1))
            self.same((type(each), len(each)), (tuple, len(chart.damages)))
            self.same(sum(map(f, depths)), Fraction(1))
            self.same(depths[0], safe_share(chart))
            self.same(f(lost_share(chart)) + f(depths[0]), Fraction(1))
            self.same(sum(many * f(share) for many, share in enumerate(depths)), sum(map(f, each), Fraction(0)))
            self.same(each, tuple(lost_share(chart.of_damage(number)) for number in range(len(chart.damages))))
            some += len(chart) > 4
        self.assertGreater(some, 20)

    def test_equal_damages_count_each(self):
        chart = chart_of(one_hold(), RULE, ((0,), (), (0,), (0,)))
        self.same(depth_shares(chart), rs("5/12", 0, 0, "1/3", "1/4"))
        self.same(damage_shares(chart), rs("7/12", "1/4", "7/12", "7/12"))

    def test_pieces_that_overlap_count_once(self):
        groups = [[(half(-1, 0, -3),), (half(1, 0, 2), half(-1, 0, -4, True))], [(half(0, 1, 3, True),)]]
        chart = drawn(SQUARE, ((), (0,)), groups)
        self.same(damage_shares(chart), rs("2/3", "1/2"))
        self.same(depth_shares(chart), rs("1/6", "1/2", "1/3"))

    def test_pieces_without_area_cover_nothing(self):
        stretch, corner = (half(1, 0, 3), half(-1, 0, -3)), (half(1, 0, 6), half(0, 1, 6))
        chart = drawn(SQUARE, ((),), [[stretch, corner]])
        self.same([len(piece.corners) for piece in chart.pieces], [2, 1])
        self.same((lost_share(chart), depth_shares(chart)), (r(0), rs(1, 0)))
        self.same(safe_polygons(chart), (SQUARE.corners,))

    def test_a_rule_with_three_corners(self):
        triangle = Rule([half(0, 1, 0), half(-1, -1, -6)])
        self.same(len(triangle.corners), 3)
        chart = drawn(triangle, ((),), [[(half(1, 0, 3),)]])
        self.same((lost_share(chart), depth_shares(chart)), (r("1/4"), rs("3/4", "1/4")))
        self.same(safe_polygons(chart), (points((0, 0), (3, 0), (3, 3), (0, 6)),))

    def test_narrow_strips(self):
        for halves, wanted in (((half(1, 0, 1),), "5/6"), ((half(-1, 0, -1),), "1/6"),
                               ((half(0, -1, -5, True),), "5/6"), ((half(1, 1, 1),), "71/72"),
                               ((half(1, 1, 11, True),), "1/72")):
            self.same(lost_share(drawn(SQUARE, ((),), [[halves]])), r(wanted))

    def test_no_pieces(self):
        chart = chart_of(one_hold(), box(10, 20, -1, 1), DAMAGES)
        self.same(len(chart), 0)
        self.same((lost_share(chart), safe_share(chart)), (r(0), r(1)))
        self.same((damage_shares(chart), depth_shares(chart)), (rs(0, 0), rs(1, 0, 0)))
        self.same(safe_polygons(chart), (chart.rule.corners,))

    def test_all_is_lost(self):
        chart = chart_of(tipping(2000), box(5, 6, -1, 1), ((0, 1), ()))
        self.same(damage_shares(chart)[0], r(1))
        self.same(safe_polygons(chart), ())
        self.same((lost_share(chart), safe_share(chart)), (r(1), r(0)))

    def test_rules_with_sides_that_bound_nothing(self):
        wide = Rule([*RULE.sides, half(1, 0, -5), half(-2, 0, -120), half(0, 1, -1000)])
        self.same(depth_shares(chart_of(one_hold(), wide, DAMAGES)), rs("5/12", "1/3", "1/4"))

    def test_60_pieces(self):
        groups = [[(half(1, at, 2 + at), half(-1, -at, -3 - at, True))] for at in range(-9, 11)] * 3
        chart = drawn(box(0, 60, -100, 100), tuple(() for _ in groups), groups)
        self.same(len(chart), 60)
        depths = depth_shares(chart)
        self.same(sum(map(f, depths)), Fraction(1))
        self.same([f(share) for at, share in enumerate(depths) if at % 3], [Fraction(0)] * 40)
        self.same(f(depths[0]), sum(corners_area(fractions_of(one)) for one in safe_polygons(chart)) / 12000)

    def test_great_charts(self):
        chart = chart_of(four_holds(), box(0, 300, -900, 900), tuple(all_lots_of(4)[:3]))
        self.same(f(lost_share(chart)) + sum(corners_area(fractions_of(one)) for one in safe_polygons(chart)) / 540000,
                  Fraction(1))


class Polygons(Case):
    def check(self, chart):
        polygons = safe_polygons(chart)
        self.assertIs(type(polygons), tuple)
        drawn_ones = [fractions_of(one) for one in polygons]
        for one in polygons:
            self.assertIs(type(one), tuple)
            self.assertIsNone(corners_fault(one))
        for at, one in enumerate(drawn_ones):
            self.assertGreater(corners_area(one), 0)
            self.same(common_area(one, fractions_of(chart.rule.corners)), corners_area(one))
            for other in drawn_ones[at + 1:]:
                self.same(common_area(one, other), Fraction(0))
            for piece in chart.pieces:
                if len(piece.corners) > 2:
                    self.same(common_area(one, fractions_of(piece.corners)), Fraction(0))
        whole = corners_area(fractions_of(chart.rule.corners))
        self.same(sum(map(corners_area, drawn_ones), Fraction(0)), whole * f(safe_share(chart)))
        return len(polygons)

    def test_they_fill_up_what_the_pieces_leave(self):
        counts = [self.check(chart) for chart in charts(123, 10, 40)]
        self.assertIn(0, counts)
        self.assertGreater(sum(counts), 40)

    def test_pieces_in_the_middle(self):
        middle = (half(1, 0, 2), half(-1, 0, -4), half(0, 1, 2, True), half(0, -1, -4))
        chart = drawn(SQUARE, ((),), [[middle]])
        self.same(lost_share(chart), r("1/9"))
        self.assertGreater(self.check(chart), 3)
        crossed = [[(half(1, at, 3),), (half(at, -1, 0, True), half(1, 1, 5))] for at in (-2, 1, 3)]
        chart = drawn(SQUARE, ((), (), ()), crossed)
        self.check(chart)
        self.same((depth_shares(chart), damage_shares(chart)), shares_by_slices(chart))


class Errors(Case):
    def test_rules_without_area(self):
        for rule in (Rule.at(point(5, 5)), box(0, 60, 0, 0), box(3, 3, -5, 5), Rule.at(point(0, 0))):
            for ship in (one_hold(), rocker()):
                chart = chart_of(ship, rule, ((), (0,)))
                self.same(safe_polygons(chart), ())
                for call in (lost_share, safe_share, damage_shares, depth_shares):
                    self.refused(NoArea, {}, call, chart)


if __name__ == "__main__":
    unittest.main()
