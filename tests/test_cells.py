import random
import unittest
from fractions import Fraction

from dryholds.cells import Cell, cell_of, cells_left, new_halves
from dryholds.errors import Unbounded
from dryholds.polygons import mean_of, polygon_of
from tests.helpers import Case, f, half, have_common, point, points, r, rs

SQUARE = (half(1, 0, 0), half(-1, 0, -6), half(0, 1, 0), half(0, -1, -6))
GRID = [point(Fraction(weight, 2), Fraction(moment, 2)) for weight in range(-1, 14) for moment in range(-1, 14)]


def square():
    return cell_of(SQUARE)


def is_in(couple, halves):
    """Whether a couple is in each half-plane, by fractions."""
    for one in halves:
        excess = f(one.p) * f(couple[0]) + f(one.q) * f(couple[1]) - f(one.r)
        if excess < 0 or excess == 0 and one.strict:
            return False
    return True


def told(cells):
    return [([(one.p, one.q, one.r, one.strict) for one in cell.halves], cell.corners) for cell in cells]


def some_halves(chance, many):
    return [half(chance.randint(-2, 2), chance.randint(-2, 2), chance.randint(-9, 9), chance.random() < 0.4)
            for _ in range(many)]


def spots(chance, many):
    return [point(Fraction(chance.randint(-8, 56), 8), Fraction(chance.randint(-8, 56), 8)) for _ in range(many)]


class Class(Case):
    def test_attributes(self):
        halves, corners = [half(1, 0, 0)], [[r(0), r(1)]]
        cell = Cell(halves=halves, corners=corners)
        halves.append("more")
        corners.append("more")
        self.assertEqual(cell.halves, (half(1, 0, 0),))
        self.assertIs(type(cell.halves), tuple)
        self.same(cell.corners, ((r(0), r(1)),))
        self.same(vars(Cell((), ())), {"halves": (), "corners": ()})

    def test_equal(self):
        one = Cell(SQUARE, ())
        self.assertTrue(one == Cell(list(SQUARE), points((1, 1))))
        for other in (Cell(SQUARE[:3], ()), Cell(SQUARE[::-1], ()), Cell((*SQUARE[:3], half(0, -1, -6, True)), ()),
                      SQUARE, None):
            self.assertFalse(one == other)

    def test_mean(self):
        self.same(square().mean, point(3, 3))
        self.same(Cell((), points((0, 0), (1, 0), (0, 5))).mean, (r("1/3"), r("5/3")))

    def test_couples(self):
        cell = cell_of((*SQUARE, half(1, 1, 3, True)))
        for couple in GRID:
            self.same(couple in cell, is_in(couple, cell.halves))
        self.assertTrue(list(point(3, 3)) in cell)
        self.assertFalse(point(0, 3) in cell)
        self.assertTrue(point(0, 3) in square())


class CellOf(Case):
    def test_by_common_couples(self):
        chance = random.Random(81)
        kinds = {}
        for _ in range(300):
            halves = (*SQUARE, *some_halves(chance, chance.randint(0, 4)))
            cell = cell_of(list(halves))
            found = have_common(halves)
            kinds[found] = True
            if not found:
                self.assertIsNone(cell)
                continue
            self.assertIs(type(cell), Cell)
            self.assertEqual(cell.halves, halves)
            self.same(cell.corners, polygon_of(halves))
            self.same(cell.mean, mean_of(cell.corners))
            self.assertTrue(is_in(cell.mean, halves))
        self.assertEqual(set(kinds), {True, False})

    def test_strict_half_planes_that_leave_no_couple(self):
        for more in (half(1, 0, 6, True), half(-1, -1, 0, True), half(0, 0, 0, True), half(0, 0, 1),
                     half(0, -1, 0, True)):
            self.assertIsNone(cell_of((*SQUARE, more)))
        for more, corners in ((half(1, 0, 6), points((6, 0), (6, 6))), (half(-1, -1, 0), points((0, 0))),
                              (half(0, 0, 0), square().corners), (half(0, 0, -1, True), square().corners)):
            self.same(cell_of((*SQUARE, more)).corners, corners)
        # A stretch without its ends is a cell still.
        ends = (half(1, 0, 2), half(-1, 0, -2), half(0, 1, 1, True), half(0, -1, -4, True))
        self.same(cell_of(ends).mean, (r(2), r("5/2")))
        self.assertFalse(point(2, 1) in cell_of(ends))

    def test_half_planes_told_twice(self):
        cell = cell_of(SQUARE * 3)
        self.assertEqual(cell.halves, SQUARE * 3)
        self.same(cell.corners, square().corners)

    def test_unbounded(self):
        for halves in ((), [], SQUARE[:3], (half(1, 0, 0), half(-1, 0, 0, True)), (half(0, 0, 0, True),),
                       (half(0, 0, -1),), (half(1, 0, 0, True),)):
            self.refused(Unbounded, {}, cell_of, halves)
        self.assertIsNone(cell_of((half(1, 0, 1), half(-1, 0, 0))))
        self.assertIsNone(cell_of([half(0, 0, 1)]))


class Within(Case):
    def test_one_half_plane_more(self):
        chance = random.Random(82)
        for _ in range(200):
            cell = cell_of((*SQUARE, *some_halves(chance, 1)))
            more = some_halves(chance, 1)[0]
            got = cell and cell.within(more)
            if cell is None:
                continue
            if not have_common((*cell.halves, more)):
                self.assertIsNone(got)
            else:
                self.assertEqual(got.halves, (*cell.halves, more))
                self.same(got.corners, polygon_of((*cell.halves, more)))

    def test_touching(self):
        self.same(square().within(half(1, 0, 6)).corners, points((6, 0), (6, 6)))
        self.assertIsNone(square().within(half(1, 0, 6, True)))
        self.assertIsNone(square().within(half(1, 0, 6)).within(half(-1, 0, -6, True)))
        self.same(square().within(SQUARE[0]).halves[-1].row, SQUARE[0].row)


class NewHalves(Case):
    def test_in_order(self):
        a, b, c = half(1, 0, 0), half(0, 1, 0), half(0, 1, 0, True)
        for halves, others, wanted in (((a, b, c), (), (a, b, c)), ([a, b, a, c, b], [], (a, b, c)),
                                       ((a, b, c), [b], (a, c)), ((c, b), (b,), (c,)), ((a,), (a, a), ()),
                                       ((), (a,), ()),
                                       # The same points, but not equal.
                                       ((half(2, 0, 0), a), (half(3, 0, 0),), (half(2, 0, 0), a))):
            got = new_halves(halves, others)
            self.assertIs(type(got), tuple)
            self.assertEqual(got, wanted)


class Beyond(Case):
    def parts(self, cell, halves):
        """The cells beyond, half-plane by half-plane, by the words of the document."""
        fresh = [one for at, one in enumerate(halves) if one not in cell.halves and one not in halves[:at]]
        lists = [(*cell.halves, *fresh[:at], one.opposite()) for at, one in enumerate(fresh)]
        return [cell_of(rows) for rows in lists if have_common(rows)]

    def test_each_couple_is_in_exactly_one(self):
        chance = random.Random(83)
        several = 0
        for _ in range(60):
            cell = cell_of((*SQUARE, *some_halves(chance, 1)))
            if cell is None:
                continue
            halves = some_halves(chance, chance.randint(1, 4)) + [chance.choice(SQUARE)]
            halves += [chance.choice(halves)]
            got = cell.beyond(halves)
            self.assertIs(type(got), tuple)
            self.same(told(got), told(self.parts(cell, halves)))
            several += len(got) > 1
            for couple in spots(chance, 30) + [cell.mean, *cell.corners]:
                due = is_in(couple, cell.halves) and not is_in(couple, halves)
                self.same(sum(couple in one for one in got), 1 if due else 0)
        self.assertGreater(several, 10)

    def test_by_hand(self):
        self.same(square().beyond(()), ())
        self.same(square().beyond(SQUARE), ())
        low, high = half(1, 0, 2), half(-1, 0, -4, True)
        got = square().beyond([low, high, low])
        self.same(told(got), told([cell_of((*SQUARE, low.opposite())), cell_of((*SQUARE, low, high.opposite()))]))
        self.same([cell.corners for cell in got], [points((0, 0), (2, 0), (2, 6), (0, 6)),
                                                   points((4, 0), (6, 0), (6, 6), (4, 6))])
        # Nothing of the square is in the first, so all that lies beyond is the square.
        self.same([cell.corners for cell in square().beyond((half(1, 0, 7), low))], [square().corners])
        self.same(square().beyond((half(1, 0, -1),)), ())
        self.same([cell.corners for cell in square().beyond((half(1, 0, 0, True),))], [points((0, 0), (0, 6))])


class CellsLeft(Case):
    def test_what_is_in_no_group(self):
        chance = random.Random(84)
        left = 0
        for _ in range(25):
            cells = [one for one in (cell_of((*SQUARE, *some_halves(chance, 1))) for _ in range(2)) if one is not None]
            groups = [some_halves(chance, chance.randint(2, 4)) for _ in range(chance.randint(0, 5))]
            wanted = cells
            for group in groups:
                parts = [Beyond.parts(self, cell, group) if have_common((*cell.halves, *group)) else [cell]
                         for cell in wanted]
                wanted = [part for row in parts for part in row]
            got = cells_left(cells, groups)
            self.assertIs(type(got), tuple)
            self.same(told(got), told(wanted))
            left += len(got)
            for couple in spots(chance, 30) + [cell.mean for cell in got]:
                times = sum(is_in(couple, cell.halves) for cell in cells)
                out = not any(is_in(couple, group) for group in groups)
                self.same(sum(couple in cell for cell in got), times if out else 0)
        self.assertGreater(left, 30)

    def test_by_hand(self):
        self.assertEqual(cells_left([square()], []), (square(),))
        self.same(cells_left([], [SQUARE]), ())
        self.same(cells_left((square(),), (SQUARE,)), ())
        self.same(cells_left((square(), square()), ((),)), ())
        # A group that the cell does not meet leaves it whole, though its half-planes would cut it.
        self.assertEqual(cells_left((square(),), ((half(1, 0, 3), half(-1, 0, -2)),)), (square(),))
        self.assertEqual(cells_left((square(),), ((half(1, 0, 6, True), half(0, 1, 3)),)), (square(),))

    def test_60_groups(self):
        groups = [(half(1, 0, r_of(at)), half(-1, 0, -r_of(at))) for at in range(60)]
        got = cells_left((square(),), groups)
        self.same(len(got), 60)
        for at in range(60):
            self.same(sum(point(r_of(at), 3) in cell for cell in got), 0)
            self.same(sum(point(r_of(at) + Fraction(1, 30), 3) in cell for cell in got), 1)

    def test_equal_groups(self):
        group = (half(1, 0, 2), half(-1, 0, -4))
        self.assertEqual(cells_left((square(),), [group] * 60), cells_left((square(),), [group]))


def r_of(at):
    return Fraction(at, 10)


class Kinds(Case):
    def test_corners_are_tuples_of_ratios(self):
        self.same(square().corners, (rs(0, 0), rs(6, 0), rs(6, 6), rs(0, 6)))


if __name__ == "__main__":
    unittest.main()
