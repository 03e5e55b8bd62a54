import random
import unittest

from dryholds.errors import BadCorners, BadPoint, Unbounded
from dryholds.halfplanes import HalfPlane
from dryholds.polygons import added_polygons, corners_fault, covers_cargo, cut_polygon, halves_of, hull_of, mean_of
from dryholds.polygons import outside_of, polygon_of, twice_area
from tests.helpers import BIG, NO_RATIOS, NO_SEQUENCES, Case, f, half, have_common, in_hull, point, points, r

SQUARE = points((0, 0), (2, 0), (2, 2), (0, 2))
TRIANGLE = points((-1, 0), ("1/2", -3), (4, "5/2"))
STRETCH = points((1, 5), (3, -1))
UPRIGHT = points((1, -1), (1, 4))
DOT = points(("1/3", -2))
HEXAGON = points((-2, 0), (-1, -2), (1, -2), (2, 0), (1, 2), (-1, 2))
SAMPLE = (SQUARE, TRIANGLE, STRETCH, UPRIGHT, DOT, (), HEXAGON)
BAD = (("sequence", NO_SEQUENCES + (7, None)),
       ("corner", ((SQUARE[0], "x"), (1,), [(r(0),)], [(r(0), r(0), r(0))], [None], [((0, 1), 0)], [([0, 1], (0, 1))],
                   SQUARE[2:] + ((1, 2),))),
       ("order", (SQUARE[1:] + SQUARE[:1], SQUARE[::-1], STRETCH[::-1], DOT + DOT, SQUARE + SQUARE[:1],
                  points((0, 0), (1, 0), (2, 0), (2, 2)), points((0, 0), (1, 1), (2, 2)), SQUARE[:1] * 2 + SQUARE[1:],
                  points((0, 0), (2, 0), (0, 2), (2, 2)), UPRIGHT[::-1],
                  points((0, 0), (2, 0), (1, 1), (2, 2), (0, 2)),
                  # Left bends alone, but twice around.
                  points((-10, 3), (6, -8), (0, 10), (-6, -8), (10, 3)))))


def dice(seed):
    return random.Random(seed)


def any_half(chance, size=3):
    return HalfPlane(*[r(chance.randint(-size, size), chance.randint(1, 2)) for _ in range(3)])


def any_point(chance, size=4):
    return (r(chance.randint(-size, size), chance.randint(1, 3)), r(chance.randint(-size, size), chance.randint(1, 3)))


class Corners(Case):
    def test_right_corners(self):
        for corners in SAMPLE:
            self.assertIsNone(corners_fault(corners))
            self.assertIsNone(corners_fault([list(corner) for corner in corners]))

    def test_words(self):
        for what, things in BAD:
            for thing in things:
                with self.subTest(what=what, thing=thing):
                    self.same(corners_fault(thing), what)

    def test_words_come_in_their_order(self):
        self.same(corners_fault([SQUARE[1], SQUARE[0], "x"]), "corner")

    def test_functions_that_ask(self):
        for what, things in BAD:
            for thing in things:
                for call in (twice_area, mean_of, halves_of):
                    self.refused(BadCorners, {"what": what}, call, thing)
                self.refused(BadCorners, {"what": what}, covers_cargo, thing, point(0, 0))

    def test_no_ratio_makes_no_corner(self):
        for thing in NO_RATIOS:
            self.same(corners_fault([(r(0), thing)]), "corner")
            self.same(corners_fault([SQUARE[0], (thing, r(0))]), "corner")


class Hulls(Case):
    def test_few_points(self):
        self.same(hull_of([]), ())
        self.same(hull_of(()), ())
        self.same(hull_of([[r(1), r(2)]]), (point(1, 2),))
        self.same(hull_of([point(1, 2)] * 3), (point(1, 2),))
        self.same(hull_of([point(1, 2), point(1, -2)]), (point(1, -2), point(1, 2)))

    def test_points_on_a_line(self):
        self.same(hull_of(points((3, 3), (1, 1), (2, 2), ("5/2", "5/2"), (1, 1))), points((1, 1), (3, 3)))
        self.same(hull_of(points((3, 0), (1, 0), (2, 0))), points((1, 0), (3, 0)))
        self.same(hull_of(points((0, 2), (0, "1/2"), (0, -5))), points((0, -5), (0, 2)))

    def test_inner_points_and_points_on_sides_are_left_out(self):
        more = points((1, 1), (1, 0), (2, 1), (1, 2), (0, 1), ("1/2", "3/2"), (0, 0), (2, 2))
        self.same(hull_of(more + SQUARE), SQUARE)
        self.same(hull_of((SQUARE + more)[::-1]), SQUARE)
        self.same(hull_of([list(corner) for corner in HEXAGON]), HEXAGON)

    def test_all_right_corners_are_their_own_hull(self):
        for corners in SAMPLE:
            self.same(hull_of(corners), corners)
            self.same(hull_of(corners[::-1]), corners)

    def test_hulls_of_any_points(self):
        chance = dice(1)
        for _ in range(150):
            given = [any_point(chance) for _ in range(chance.randint(1, 9))]
            corners = hull_of(given)
            self.assertIsNone(corners_fault(corners))
            self.assertTrue(set(corners) <= set(given))
            for place in given:
                self.assertTrue(in_hull(place, corners))
            for at, corner in enumerate(corners):
                self.assertFalse(in_hull(corner, corners[:at] + corners[at + 1:]))

    def test_great_numbers(self):
        near = ((BIG, BIG - 1), (BIG - 1, BIG))
        corners = ((r(0), r(0)), (r(1), r(1)), near)
        self.same(hull_of(corners), ((r(0), r(0)), near, (r(1), r(1))))

    def test_two_hundred_points(self):
        given = [(r(at), r(at * at)) for at in range(-100, 100)]
        self.same(hull_of(given[::2] + given[1::2]), tuple(given))

    def test_no_points(self):
        for thing in ("x", None, (), (r(1),), (r(1), r(1), r(1)), [1, 2], ((1, 2), (2, 4)), {}, r(1)):
            self.refused(BadPoint, {"index": 0}, hull_of, [thing])
            self.refused(BadPoint, {"index": 2}, hull_of, (point(0, 0), point(0, 0), thing, thing))
        for thing in NO_RATIOS:
            self.refused(BadPoint, {"index": 1}, hull_of, [point(0, 0), (thing, r(0))])
            self.refused(BadPoint, {"index": 1}, hull_of, [point(0, 0), (r(0), thing)])

    def test_what_is_passed_stays(self):
        given = [list(corner) for corner in SQUARE[::-1]]
        before = repr(given)
        hull_of(given)
        self.assertEqual(repr(given), before)


class Polygons(Case):
    def test_examples(self):
        square = [half(1, 0, 0), half(0, 1, 0), half(-1, 0, -2), half(0, -1, -2)]
        self.same(polygon_of(square), SQUARE)
        self.same(polygon_of(tuple(square[::-1])), SQUARE)
        self.same(polygon_of([*square, half(1, 1, 0), half(-1, -1, -4), half(1, 0, 0), half(0, 0, -1)]), SQUARE)
        self.same(polygon_of([*square, half(-1, -1, "-7/2")]), points((0, 0), (2, 0), (2, "3/2"), ("3/2", 2), (0, 2)))
        self.same(polygon_of([*square, half(1, 1, 4)]), points((2, 2)))
        self.same(polygon_of([*square, half(1, 0, 2)]), points((2, 0), (2, 2)))
        self.same(polygon_of([*square, half(1, -1, 0), half(-1, 1, 0)]), points((0, 0), (2, 2)))
        self.same(polygon_of([*square, half(1, 1, "9/2")]), ())

    def test_strict_is_not_read(self):
        square = [half(1, 0, 0, True), half(0, 1, 0, True), half(-1, 0, -2, True), half(0, -1, -2, True)]
        self.same(polygon_of(square), SQUARE)
        self.same(polygon_of([*square, half(1, 1, 4, True)]), points((2, 2)))
        self.same(polygon_of([*square, half(0, 0, 0, True)]), SQUARE)

    def test_half_planes_without_a_line(self):
        self.same(polygon_of([half(0, 0, 1)]), ())
        self.same(polygon_of([half(1, 0, 0), half(0, 0, "1/9")]), ())
        for halves in ([half(0, 0, 0)], [half(0, 0, -1)], [half(0, 0, 0, True)]):
            self.refused(Unbounded, {}, polygon_of, halves)

    def test_points_without_end(self):
        for halves in ([], (), [half(1, 0, 0)], [half(1, 0, 0), half(-1, 0, 0)], [half(1, 0, 0), half(0, 1, 0)],
                       [half(1, 0, 0), half(0, 1, 0), half(0, -1, 0)], [half(1, 2, 3), half(-1, -2, -3)],
                       [half(1, 1, 10 ** 9), half(1, -1, -10 ** 9)], [half(1, 0, 0), half(-1, 0, -5), half(0, 1, 7)]):
            self.refused(Unbounded, {}, polygon_of, halves)

    def test_empty_without_end_is_empty(self):
        self.same(polygon_of([half(1, 0, 1), half(-1, 0, 0)]), ())
        self.same(polygon_of([half(1, 0, 1), half(-1, 0, 0), half(0, 1, 0)]), ())

    def test_far_corners(self):
        far = [half(1, 0, 10 ** 9), half(-1, 0, -10 ** 9), half(0, 1, -10 ** 12), half(0, -1, 10 ** 12)]
        self.same(polygon_of(far), (point(10 ** 9, -10 ** 12),))
        # Two steep lines cross far beyond their bounds.
        steep = [half(50, 49, 100), half(51, 50, -100)]
        self.same(polygon_of([*steep, *[one.opposite().closed() for one in steep]]), points((9900, -10100)))
        slim = [half(1, BIG, 0), half(1, -BIG, 0), half(-1, 0, -BIG)]
        self.same(polygon_of(slim), points((0, 0), (BIG, -1), (BIG, 1)))
        near = [half(1, 0, 0), HalfPlane((-1, 1), (BIG - 1, BIG), (-1, 1)), HalfPlane((-1, 1), (-BIG, BIG - 1), (0, 1))]
        self.assertIsNone(corners_fault(polygon_of(near)))
        self.same(len(polygon_of(near)), 3)

    def test_against_crossings(self):
        chance = dice(2)
        seen = {"none": 0, "bound": 0, "open": 0}
        for _ in range(400):
            halves = [any_half(chance) for _ in range(chance.randint(0, 7))]
            wanted = self.by_crossings(halves)
            if wanted is None:
                seen["open"] += 1
                self.refused(Unbounded, {}, polygon_of, halves)
            else:
                seen["bound" if wanted else "none"] += 1
                self.same(polygon_of(halves), wanted)
        self.assertGreater(min(seen.values()), 30, seen)

    def by_crossings(self, halves):
        """The corners by all crossings of lines, None where the points reach without end."""
        if not have_common(halves):
            return ()
        rows = [(f(one.p), f(one.q), f(one.r)) for one in halves if one.reach == "line"]
        for p, q, _ in rows or [(f(r(1)), f(r(0)), 0)]:
            for way in ((-q, p), (q, -p)):
                if all(way[0] * u + way[1] * v >= 0 for u, v, _ in rows):
                    return None
        crossings = []
        for a, b, c in rows:
            for u, v, w in rows:
                bottom = a * v - b * u
                if bottom:
                    place = point((c * v - b * w) / bottom, (a * w - c * u) / bottom)
                    if all(one.holds_cargo(place) for one in halves):
                        crossings.append(place)
        return hull_of(crossings)

    def test_two_hundred_half_planes(self):
        corners = polygon_of([half(-2 * at, 1, -at * at) for at in range(-99, 100)] + [half(0, -1, -9900)])
        self.assertIsNone(corners_fault(corners))
        self.same(len(corners), 200)
        self.same(corners[:3], points(("-199/2", 9900), ("-197/2", 9702), ("-195/2", 9506)))


class Sums(Case):
    def test_examples(self):
        self.same(added_polygons(SQUARE, points((1, 1))), points((1, 1), (3, 1), (3, 3), (1, 3)))
        self.same(added_polygons(SQUARE, SQUARE), points((0, 0), (4, 0), (4, 4), (0, 4)))
        self.same(added_polygons(STRETCH, STRETCH), points((2, 10), (6, -2)))
        self.same(added_polygons(UPRIGHT, points((0, 0), (2, 0))), points((1, -1), (3, -1), (3, 4), (1, 4)))
        self.same(added_polygons(points((0, 0), (1, 0), (0, 1)), points((0, 1), (1, 0), (1, 1))),
                  points((0, 1), (1, 0), (2, 0), (2, 1), (1, 2), (0, 2)))

    def test_empty_polygons(self):
        for corners in SAMPLE:
            self.same(added_polygons(corners, ()), ())
            self.same(added_polygons((), corners), ())

    def test_against_all_sums_of_corners(self):
        chance = dice(3)
        kinds = list(SAMPLE)
        for _ in range(60):
            kinds.append(hull_of([any_point(chance) for _ in range(chance.randint(1, 6))]))
        for one in kinds:
            for other in kinds[:12] + kinds[-3:]:
                wanted = hull_of([point(f(a) + f(c), f(b) + f(d)) for a, b in one for c, d in other])
                self.same(added_polygons(one, other), wanted)
                self.same(added_polygons([list(corner) for corner in other], one), wanted)


class Cuts(Case):
    def test_examples(self):
        self.same(cut_polygon(SQUARE, half(1, 0, 1)), points((1, 0), (2, 0), (2, 2), (1, 2)))
        self.same(outside_of(SQUARE, half(1, 0, 1)), points((0, 0), (1, 0), (1, 2), (0, 2)))
        self.same(cut_polygon(SQUARE, half(1, 1, 3)), points((1, 2), (2, 1), (2, 2)))
        self.same(cut_polygon(STRETCH, half(1, 0, 2)), points((2, 2), (3, -1)))
        self.same(outside_of(STRETCH, half(1, 0, 2)), points((1, 5), (2, 2)))
        self.same(cut_polygon(STRETCH, half(0, 1, 2)), points((1, 5), (2, 2)))

    def test_lines_that_touch(self):
        self.same(cut_polygon(SQUARE, half(1, 0, 0)), SQUARE)
        self.same(outside_of(SQUARE, half(1, 0, 0)), ())
        self.same(cut_polygon(SQUARE, half(1, 0, 2)), points((2, 0), (2, 2)))
        self.same(outside_of(SQUARE, half(1, 0, 2)), SQUARE)
        self.same(cut_polygon(SQUARE, half(1, 1, 4)), points((2, 2)))
        self.same(cut_polygon(SQUARE, half(1, 1, 0)), SQUARE)
        self.same(outside_of(SQUARE, half(1, 1, 0)), ())
        self.same(cut_polygon(SQUARE, half(1, -1, 0)), points((0, 0), (2, 0), (2, 2)))
        self.same(outside_of(SQUARE, half(1, -1, 0)), points((0, 0), (2, 2), (0, 2)))
        self.same(cut_polygon(UPRIGHT, half(0, 1, 4)), points((1, 4)))
        self.same(cut_polygon(DOT, half(3, 0, 1)), DOT)
        self.same(outside_of(DOT, half(3, 0, 1)), ())

    def test_lines_beside(self):
        self.same(cut_polygon(SQUARE, half(1, 0, "5/2")), ())
        self.same(outside_of(SQUARE, half(1, 0, "5/2")), SQUARE)
        self.same(outside_of(SQUARE, half(1, 0, -1)), ())
        self.same(cut_polygon(DOT, half(1, 0, 1)), ())
        self.same(outside_of(DOT, half(1, 0, 1)), DOT)

    def test_strict_is_read_as_closed(self):
        self.same(cut_polygon(SQUARE, half(1, 1, 4, True)), points((2, 2)))
        self.same(cut_polygon(SQUARE, half(0, 0, 0, True)), SQUARE)
        self.same(outside_of(SQUARE, half(1, 0, 0, True)), ())
        self.same(outside_of(SQUARE, half(0, 0, 0, True)), ())
        self.same(outside_of(SQUARE, half(1, 0, 1, True)), points((0, 0), (1, 0), (1, 2), (0, 2)))

    def test_without_a_line(self):
        for corners in SAMPLE:
            self.same(cut_polygon(corners, half(0, 0, 0)), corners)
            self.same(cut_polygon(corners, half(0, 0, -1)), corners)
            self.same(cut_polygon(corners, half(0, 0, 1)), ())
            self.same(outside_of(corners, half(0, 0, 0)), ())
            self.same(outside_of(corners, half(0, 0, -1)), ())
            self.same(outside_of(corners, half(0, 0, 1)), corners)

    def test_against_half_planes_of_polygons(self):
        chance = dice(4)
        for _ in range(250):
            corners = hull_of([any_point(chance) for _ in range(chance.randint(0, 6))])
            one = any_half(chance)
            beyond = half(-f(one.p), -f(one.q), -f(one.r))
            inner = polygon_of([*halves_of(corners), one])
            self.same(cut_polygon(corners, one), inner)
            self.same(cut_polygon([list(corner) for corner in corners], one), inner)
            wanted = () if inner == corners else polygon_of([*halves_of(corners), beyond])
            self.same(outside_of(corners, one), wanted)
            self.same(outside_of([list(corner) for corner in corners], one), wanted)


class Measures(Case):
    def test_areas(self):
        for corners, wanted in zip(SAMPLE, (8, "75/4", 0, 0, 0, 0, 24)):
            self.same(twice_area(corners), r(wanted))
            self.same(twice_area([list(corner) for corner in corners]), r(wanted))

    def test_area_by_parts(self):
        chance = dice(5)
        for _ in range(60):
            corners = hull_of([any_point(chance) for _ in range(6)])
            one = any_half(chance)
            both = f(twice_area(cut_polygon(corners, one))) + f(twice_area(outside_of(corners, one)))
            if one.reach == "line":
                self.assertEqual(both, f(twice_area(corners)))
            self.assertEqual(f(twice_area(corners)) > 0, len(corners) > 2)

    def test_means(self):
        self.same(mean_of(SQUARE), point(1, 1))
        self.same(mean_of(list(STRETCH)), point(2, 2))
        self.same(mean_of(DOT), point("1/3", -2))
        self.same(mean_of(TRIANGLE), point("7/6", "-1/6"))
        self.refused(BadCorners, {"what": "none"}, mean_of, ())
        self.refused(BadCorners, {"what": "none"}, mean_of, [])

    def test_mean_tells_whether_there_is_a_common_point(self):
        chance = dice(6)
        seen = set()
        for _ in range(300):
            halves = [half(1, 0, -2), half(-1, 0, -2), half(0, 1, -2), half(0, -1, -2)]
            halves += [any_half(chance) for _ in range(3)]
            halves = [HalfPlane(one.p, one.q, one.r, chance.random() < 0.5) for one in halves]
            corners = polygon_of(halves)
            if corners:
                wanted = have_common(halves)
                seen.add(wanted)
                self.assertIs(all(one.holds_cargo(mean_of(corners)) for one in halves), wanted)
        self.assertEqual(seen, {True, False})

    def test_covered_points(self):
        for corners in SAMPLE:
            for corner in corners:
                self.same(covers_cargo(corners, corner), True)
                self.same(covers_cargo(list(corners), list(corner)), True)
            self.same(covers_cargo(corners, point(9, 9)), False)
        self.same(covers_cargo(SQUARE, point(1, 1)), True)
        self.same(covers_cargo(SQUARE, point(1, 0)), True)
        self.same(covers_cargo(SQUARE, (r(1), (-1, BIG))), False)
        self.same(covers_cargo(STRETCH, point(2, 2)), True)
        self.same(covers_cargo(STRETCH, point(2, "5/2")), False)
        self.same(covers_cargo(STRETCH, point(4, -4)), False)
        self.same(covers_cargo(DOT, point("1/3", -1)), False)
        self.same(covers_cargo((), point(0, 0)), False)

    def test_covered_points_are_mixtures(self):
        chance = dice(7)
        for _ in range(300):
            corners = hull_of([any_point(chance, 2) for _ in range(chance.randint(0, 5))])
            place = any_point(chance, 2)
            self.same(covers_cargo(corners, place), in_hull(place, corners))


class Sides(Case):
    def rows(self, corners):
        halves = halves_of(corners)
        self.assertIs(type(halves), tuple)
        for one in halves:
            self.assertIs(one.strict, False)
            self.same((one.p, one.q, one.r), tuple((number, 1) for number in one.row))
        return [one.row for one in halves]

    def test_examples(self):
        self.same(self.rows(SQUARE), [(0, 1, 0), (-1, 0, -2), (0, -1, -2), (1, 0, 0)])
        self.same(self.rows(STRETCH), [(3, 1, 8), (-3, -1, -8), (1, -3, -14), (-1, 3, -6)])
        self.same(self.rows(UPRIGHT), [(-1, 0, -1), (1, 0, 1), (0, 1, -1), (0, -1, -4)])
        self.same(self.rows(DOT), [(3, 0, 1), (0, 1, -2), (-3, 0, -1), (0, -1, 2)])
        self.same(self.rows(()), [(0, 0, 1)])
        self.same(self.rows(points((0, 0))), [(1, 0, 0), (0, 1, 0), (-1, 0, 0), (0, -1, 0)])
        self.same(self.rows(TRIANGLE), [(2, 1, -2), (-22, 14, -53), (1, -2, -1)])

    def test_sides_lead_from_corner_to_corner(self):
        chance = dice(8)
        for _ in range(120):
            corners = hull_of([any_point(chance) for _ in range(chance.randint(2, 7))])
            rows = self.rows(corners)
            if len(corners) < 2:
                continue
            self.assertEqual(len(rows), 4 if len(corners) == 2 else len(corners))
            for at, corner in enumerate(corners):
                after = corners[(at + 1) % len(corners)]
                a, b, c, d = f(corner[0]), f(corner[1]), f(after[0]), f(after[1])
                self.along(rows[at], b - d, c - a, corner)
                self.assertEqual(rows[at][0] * c + rows[at][1] * d, rows[at][2])
                if len(corners) == 2:
                    self.along(rows[2 + at], c - a, d - b, corner)

    def along(self, row, p, q, corner):
        """The row has p and q times a ratio above 0, and the corner on its line."""
        self.assertEqual(row[0] * q, row[1] * p)
        self.assertGreater(row[0] * p + row[1] * q, 0)
        self.assertEqual(row[0] * f(corner[0]) + row[1] * f(corner[1]), row[2])

    def test_polygon_of_them_returns_the_corners(self):
        chance = dice(9)
        kinds = list(SAMPLE) + [hull_of([any_point(chance) for _ in range(chance.randint(0, 8))]) for _ in range(150)]
        for corners in kinds:
            self.same(polygon_of(halves_of(corners)), corners)
            self.same(polygon_of(halves_of([list(corner) for corner in corners])), corners)

    def test_great_numbers(self):
        corners = hull_of([((BIG, BIG - 1), (-BIG, 2)), ((1, BIG), (BIG, 1)), ((-1, BIG), (0, 1))])
        self.same(len(corners), 3)
        self.same(polygon_of(halves_of(corners)), corners)
        self.assertEqual(f(mean_of(corners)[0]), sum(f(weight) for weight, _ in corners) / 3)


if __name__ == "__main__":
    unittest.main()
