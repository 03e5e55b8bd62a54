import unittest

from dryholds.errors import BadBulkhead, BadShift, BadShip, BadSize, BadSplit, NoSuch
from dryholds.ship import Ship
from tests.helpers import BIG, NO_RATIOS, NO_SEQUENCES, NO_WHOLES, Case, f, four_holds, hold, one_hold, r, six_holds
from tests.helpers import three_holds

NAMES = ("holds", "tops", "marks", "own", "doors", "ports", "slack")


def parts(ship):
    return {name: getattr(ship, name) for name in NAMES}


def plain():
    """The arguments of a ship of two holds that can be changed one by one."""
    return {
        "holds": [hold(0, 4, 2, "1/2", 6), hold(4, 9, 1, 1, 5)],
        "tops": [r(3)],
        "marks": [(r(0), r(2)), (r(9), r(1))],
        "own": (r(1), r(-2)),
        "doors": [(0, r(1)), (0, r(2))],
        "ports": [(1, r(5), r(2)), (0, r(4), r(6))],
        "slack": r("1/2"),
    }


class ShipCase(Case):
    def wrong(self, index, what, **changed):
        self.refused(BadShip, {"index": index, "what": what}, Ship, **{**plain(), **changed})

    def right(self, **changed):
        return Ship(**{**plain(), **changed})


class Making(ShipCase):
    def test_attributes_are_tuples_of_what_was_passed(self):
        ship = Ship([list(row) for row in plain()["holds"]], [r(3)], [[r(0), r(2)], [r(9), r(1)]], [r(1), r(-2)],
                    [[0, r(1)], [0, r(2)]], [[1, r(5), r(2)], [0, r(4), r(6)]], r("1/2"))
        self.same(parts(ship), {
            "holds": ((0, 4, 2, (1, 2), (6, 1)), (4, 9, 1, (1, 1), (5, 1))), "tops": ((3, 1),),
            "marks": (((0, 1), (2, 1)), ((9, 1), (1, 1))), "own": ((1, 1), (-2, 1)),
            "doors": ((0, (1, 1)), (0, (2, 1))), "ports": ((1, (5, 1), (2, 1)), (0, (4, 1), (6, 1))),
            "slack": (1, 2)})
        self.assertEqual(ship, self.right())

    def test_left_out_parts(self):
        ship = Ship([hold(0, 1)], (), ((r(0), r(0)),), (r(0), r(0)))
        self.same((ship.doors, ship.ports, ship.slack), ((), (), (0, 1)))

    def test_later_changes_of_lists_have_no_effect(self):
        given = plain()
        given["holds"] = [list(row) for row in given["holds"]]
        given["marks"] = [list(row) for row in given["marks"]]
        given["own"] = list(given["own"])
        given["doors"] = [list(row) for row in given["doors"]]
        given["ports"] = [list(row) for row in given["ports"]]
        ship = Ship(**given)
        before = repr(parts(ship))
        for name in ("holds", "marks", "doors", "ports"):
            given[name][0][0] = "changed"
            given[name].append("more")
        given["tops"].append("more")
        given["own"][0] = "changed"
        self.assertEqual(repr(parts(ship)), before)

    def test_what_is_passed_is_not_changed(self):
        given = plain()
        before = repr(given)
        Ship(**given)
        self.assertEqual(repr(given), before)

    def test_numbers_of_holds(self):
        rows = [hold(at, at + 1) for at in range(7)]
        for many in range(1, 7):
            ship = Ship(rows[:many], [r(1)] * (many - 1), [(r(0), r(0))], (r(0), r(0)))
            self.same(len(ship), many)
        self.wrong(0, "many", holds=[])
        self.wrong(0, "many", holds=rows, tops=[r(1)] * 6)
        for thing in NO_SEQUENCES:
            self.wrong(0, "many", holds=thing)

    def test_holds_at_their_bounds(self):
        for row in (hold(-1000, 1000), hold(999, 1000), hold(-1000, -999), hold(0, 1, 20), hold(0, 1, 1, 0),
                    hold(0, 1, 1, 1), (0, 1, 1, (1, BIG), (1, BIG)), (0, 1, 1, (BIG - 1, BIG), (BIG, 1))):
            ship = Ship([row], [], [(r(row[0]), r(0))], (r(0), r(0)))
            self.same(ship.holds, (row,))

    def test_wrong_holds(self):
        good = plain()["holds"][0]
        wrong = [(-1001, 4), (1, 1001), (4, 4), (4, 3)]
        rows = [(start, to) + good[2:] for start, to in wrong]
        rows += [good[:2] + (breadth,) + good[3:] for breadth in (0, 21, -1, r(2), *NO_WHOLES)]
        rows += [good[:3] + (share,) + good[4:] for share in ((-1, BIG), (BIG + 1, BIG), r(2), r(-1), *NO_RATIOS)]
        rows += [good[:4] + (deck,) for deck in (r(0), r(-1), (-1, BIG), *NO_RATIOS)]
        rows += [(thing,) + good[1:] for thing in NO_WHOLES] + [good[:1] + (thing,) + good[2:] for thing in NO_WHOLES]
        rows += [good[:4], good + (1,), (), *NO_SEQUENCES]
        for row in rows:
            with self.subTest(row=row):
                self.wrong(0, "hold", holds=[row, hold(4, 9)])
                self.wrong(1, "hold", holds=[hold(-3, 0), row], tops=[r(0)])

    def test_joined_holds(self):
        for start in (3, 5, -1):
            self.wrong(1, "joined", holds=[hold(0, 4), hold(start, 9)])
        self.wrong(2, "joined", holds=[hold(0, 4), hold(4, 6), hold(7, 9)])
        self.wrong(1, "joined", holds=[hold(0, 4), hold(5, 6), hold(7, 9)])

    def test_words_of_one_hold_come_before_those_of_the_next(self):
        self.wrong(1, "joined", holds=[hold(0, 4), hold(5, 6), "no hold"])
        self.wrong(1, "hold", holds=[hold(0, 4), hold(6, 6), hold(7, 9)])
        self.wrong(0, "hold", holds=["no hold", hold(5, 6)])
        self.wrong(0, "many", holds=["no hold"] * 7)

    def test_tops(self):
        self.same(self.right(tops=(r(5),), doors=()).tops, ((5, 1),))
        self.same(self.right(tops=[r(0)], doors=()).tops, ((0, 1),))
        self.same(self.right(holds=[hold(0, 4, deck=5), hold(4, 9, deck=6)], tops=[r(5)], ports=()).tops, ((5, 1),))
        for top in ((5 * BIG + 1, BIG), (-1, BIG), r(6), *NO_RATIOS):
            self.wrong(0, "top", tops=[top])
        for thing in ([], [r(1), r(1)], [r(1), "no top"], *NO_SEQUENCES):
            self.wrong(0, "top", tops=thing)
        three = [hold(0, 1, deck=4), hold(1, 2, deck=6), hold(2, 3, deck=5)]
        for tops, index in (([r(5), r(9)], 0), ([r(4), r("26/5")], 1), ([r(4), 5], 1), ([[4, 1], r(5)], 0)):
            self.wrong(index, "top", holds=three, tops=tops)
        self.same(self.right(holds=three, tops=[r(4), r(5)], marks=[(r(0), r(0))], doors=(), ports=()).tops,
                  ((4, 1), (5, 1)))

    def test_a_ship_of_one_hold_has_no_tops(self):
        self.wrong(0, "top", holds=[hold(0, 9)], tops=[r(1)])

    def test_marks(self):
        mark = (r(0), r(0))
        for many in range(1, 5):
            self.same(len(self.right(marks=[mark] * many).marks), many)
        self.same(self.right(marks=([r(9), r(100)], (r("9/2"), (1, BIG)))).marks,
                  ((r(9), r(100)), (r("9/2"), (1, BIG))))
        for thing in ([], [mark] * 5, *NO_SEQUENCES):
            self.wrong(0, "mark", marks=thing)
        for row in ((r(10), r(1)), ((9 * BIG + 1, BIG), r(1)), ((-1, BIG), r(1)), (r(0), (-1, BIG)), (), (r(0),),
                    (r(0), r(0), r(0)), *NO_SEQUENCES):
            self.wrong(0, "mark", marks=[row])
            self.wrong(1, "mark", marks=[mark, row, row])
        for thing in NO_RATIOS:
            self.wrong(0, "mark", marks=[(thing, r(1))])
            self.wrong(2, "mark", marks=[mark, mark, (r(1), thing)])

    def test_own(self):
        self.same(self.right(own=[r(0), (-BIG, 1)]).own, ((0, 1), (-BIG, 1)))
        for thing in ((), (r(1),), (r(1), r(1), r(1)), ((-1, BIG), r(0)), *NO_SEQUENCES):
            self.wrong(0, "own", own=thing)
        for thing in NO_RATIOS:
            self.wrong(0, "own", own=(thing, r(0)))
            self.wrong(0, "own", own=(r(0), thing))

    def test_doors(self):
        door = (0, r(1))
        for many in range(7):
            self.same(len(self.right(doors=[door] * many).doors), many)
        self.same(self.right(doors=[[0, r(0)], (0, (3 * BIG - 1, BIG))]).doors, ((0, (0, 1)), (0, (3 * BIG - 1, BIG))))
        for thing in ([door] * 7, *(thing for thing in NO_SEQUENCES)):
            self.wrong(0, "door", doors=thing)
        for row in ((1, r(1)), (-1, r(1)), (0, r(3)), (0, (-1, BIG)), (0, r(4)), (), (0,), (0, r(1), r(1)),
                    *NO_SEQUENCES):
            self.wrong(0, "door", doors=[row])
            self.wrong(1, "door", doors=[door, row, row])
        for thing in NO_WHOLES:
            self.wrong(0, "door", doors=[(thing, r(1))])
        for thing in NO_RATIOS:
            self.wrong(2, "door", doors=[door, door, (0, thing)])

    def test_a_door_is_judged_by_its_own_bulkhead(self):
        three = [hold(0, 1), hold(1, 2), hold(2, 3)]
        more = {"marks": [(r(0), r(0))], "ports": ()}
        self.right(holds=three, tops=[r(3), r(5)], doors=[(1, r(4)), (0, r(2))], **more)
        self.wrong(0, "door", holds=three, tops=[r(3), r(5)], doors=[(0, r(4))], **more)
        self.wrong(0, "door", holds=three, tops=[r(3), r(5)], doors=[(2, r(1))], **more)
        self.wrong(0, "door", holds=three, tops=[r(0), r(5)], doors=[(0, r(0))], **more)

    def test_ports(self):
        port = (0, r(2), r(1))
        for many in range(5):
            self.same(len(self.right(ports=[port] * many).ports), many)
        ends = [[0, r(0), r(0)], (0, r(4), r(6)), (1, r(4), r(5)), (1, r(9), (1, BIG))]
        self.same(self.right(ports=ends).ports, tuple(tuple(row) for row in ends))
        for thing in ([port] * 5, *NO_SEQUENCES):
            self.wrong(0, "port", ports=thing)
        for row in ((2, r(5), r(1)), (-1, r(5), r(1)), (0, (-1, BIG), r(1)), (0, (4 * BIG + 1, BIG), r(1)),
                    (1, (4 * BIG - 1, BIG), r(1)), (1, r(10), r(1)), (0, r(2), (-1, BIG)),
                    (0, r(2), (6 * BIG + 1, BIG)), (1, r(5), r(6)), (), (0, r(2)), (0, r(2), r(1), r(1)),
                    *NO_SEQUENCES):
            self.wrong(0, "port", ports=[row])
            self.wrong(1, "port", ports=[port, row, row])
        for thing in NO_WHOLES:
            self.wrong(0, "port", ports=[(thing, r(2), r(1))])
        for thing in NO_RATIOS:
            self.wrong(0, "port", ports=[(0, thing, r(1))])
            self.wrong(2, "port", ports=[port, port, (0, r(2), thing)])

    def test_slack(self):
        for slack in (r(0), (1, BIG), (BIG, 1)):
            self.same(self.right(slack=slack).slack, slack)
        for thing in (r(-1), (-1, BIG), *NO_RATIOS):
            self.wrong(0, "slack", slack=thing)

    def test_order_of_the_words(self):
        good = plain()
        bad = {"holds": ["x"], "tops": ["x"], "marks": ["x"], "own": "x", "doors": ["x"], "ports": ["x"], "slack": "x"}
        whats = ("hold", "top", "mark", "own", "door", "port", "slack")
        for at, what in enumerate(whats):
            given = {name: good[name] if NAMES.index(name) < at else bad[name] for name in NAMES}
            self.refused(BadShip, {"index": 0, "what": what}, Ship, **given)

    def test_arguments_come_in_the_told_order(self):
        given = plain()
        self.assertEqual(Ship(*[given[name] for name in NAMES]), Ship(**given))


class Telling(ShipCase):
    def test_equal_ships(self):
        self.assertEqual(three_holds(), three_holds())
        self.assertTrue(self.right() == self.right())
        self.assertFalse(self.right() != self.right())

    def test_each_attribute_makes_a_ship_another(self):
        changes = {"holds": [hold(0, 4, 2, "1/2", 6), hold(4, 9, 1, "1/2", 5)], "tops": [r("5/2")],
                   "marks": [(r(0), r(2))], "own": (r(1), r(2)), "doors": [(0, r(1))], "ports": [], "slack": r(0)}
        for name, thing in changes.items():
            with self.subTest(name):
                self.assertFalse(self.right() == self.right(**{name: thing}))
                self.assertTrue(self.right() != self.right(**{name: thing}))

    def test_a_ship_equals_nothing_else(self):
        for thing in (None, 0, (), tuple(parts(self.right()).values())):
            self.assertFalse(self.right() == thing)

    def test_length_and_ends(self):
        for ship, many, ends in ((one_hold(), 1, (-10, 10)), (four_holds(), 4, (-20, 20)), (three_holds(), 3, (-7, 11)),
                                 (six_holds(), 6, (-9, 15))):
            self.same(len(ship), many)
            self.same(ship.ends, ends)

    def test_places_of_bulkheads(self):
        self.same([three_holds().place_of(bulkhead) for bulkhead in (0, 1)], [-2, 5])
        self.same([six_holds().place_of(bulkhead) for bulkhead in range(5)], [-5, -1, 3, 7, 11])

    def test_edges(self):
        self.same(three_holds().edge_of(0), (4, 1))
        self.same(three_holds().edge_of(1), (1, 4))
        self.same(four_holds().edge_of(2), (27, 10))
        self.same(self.right(doors=[(0, r(2)), (0, r(0))]).edge_of(0), (0, 1))
        self.same(self.right(doors=[]).edge_of(0), (3, 1))

    def test_no_bulkheads(self):
        for thing in (2, -1, 3, *NO_WHOLES):
            self.refused(BadBulkhead, {"bulkhead": thing}, three_holds().place_of, thing)
            self.refused(BadBulkhead, {"bulkhead": thing}, three_holds().edge_of, thing)
        self.refused(BadBulkhead, {"bulkhead": 0}, one_hold().place_of, 0)
        self.refused(BadBulkhead, {"bulkhead": 0}, one_hold().edge_of, 0)


class SeenOtherwise(ShipCase):
    def test_mirrored(self):
        self.same(parts(three_holds().mirrored()), {
            "holds": ((-11, -5, 4, (0, 1), (8, 1)), (-5, 2, 2, (3, 4), (11, 2)), (2, 7, 3, (1, 3), (6, 1))),
            "tops": ((9, 2), (5, 1)),
            "marks": (((7, 1), (5, 1)), ((-1, 2), (16, 3)), ((-11, 1), (7, 1))),
            "own": ((7, 2), (4, 3)),
            "doors": ((0, (1, 4)), (1, (4, 1)), (0, (2, 1))),
            "ports": ((2, (2, 1), (1, 1)), (0, (-15, 2), (8, 1)), (1, (2, 1), (0, 1)), (1, (-3, 1), (5, 3))),
            "slack": (2, 7)})

    def test_mirrored_twice_is_the_ship(self):
        for ship in (one_hold(), three_holds(), four_holds(), six_holds()):
            self.assertEqual(ship.mirrored().mirrored(), ship)

    def test_shifted(self):
        self.same(parts(three_holds().shifted(10)), {
            "holds": ((3, 8, 3, (1, 3), (6, 1)), (8, 15, 2, (3, 4), (11, 2)), (15, 21, 4, (0, 1), (8, 1))),
            "tops": ((5, 1), (9, 2)),
            "marks": (((3, 1), (5, 1)), ((21, 2), (16, 3)), ((21, 1), (7, 1))),
            "own": ((7, 2), (101, 3)),
            "doors": ((1, (1, 4)), (0, (4, 1)), (1, (2, 1))),
            "ports": ((0, (8, 1), (1, 1)), (2, (35, 2), (8, 1)), (1, (8, 1), (0, 1)), (1, (13, 1), (5, 3))),
            "slack": (2, 7)})
        self.assertEqual(three_holds().shifted(-3).shifted(3), three_holds())
        self.assertEqual(three_holds().shifted(0), three_holds())

    def test_shifts_at_the_bounds(self):
        self.same(three_holds().shifted(989).ends, (982, 1000))
        self.same(three_holds().shifted(-993).ends, (-1000, -982))
        self.refused(BadShip, {"index": 2, "what": "hold"}, three_holds().shifted, 990)
        self.refused(BadShip, {"index": 1, "what": "hold"}, three_holds().shifted, 996)
        self.refused(BadShip, {"index": 0, "what": "hold"}, three_holds().shifted, -994)
        for thing in (r(1), *NO_WHOLES):
            self.refused(BadShift, {"shift": thing}, three_holds().shifted, thing)

    def test_lengthened(self):
        self.same(parts(three_holds().lengthened(3)), {
            "holds": ((-21, -6, 3, (1, 3), (6, 1)), (-6, 15, 2, (3, 4), (11, 2)), (15, 33, 4, (0, 1), (8, 1))),
            "tops": ((5, 1), (9, 2)),
            "marks": (((-21, 1), (5, 1)), ((3, 2), (16, 3)), ((33, 1), (7, 1))),
            "own": ((21, 2), (-12, 1)),
            "doors": ((1, (1, 4)), (0, (4, 1)), (1, (2, 1))),
            "ports": ((0, (-6, 1), (1, 1)), (2, (45, 2), (8, 1)), (1, (-6, 1), (0, 1)), (1, (9, 1), (5, 3))),
            "slack": (54, 7)})

    def test_deeper(self):
        self.same(parts(three_holds().deeper(3)), {
            "holds": ((-7, -2, 3, (1, 3), (18, 1)), (-2, 5, 2, (3, 4), (33, 2)), (5, 11, 4, (0, 1), (24, 1))),
            "tops": ((15, 1), (27, 2)),
            "marks": (((-7, 1), (15, 1)), ((1, 2), (16, 1)), ((11, 1), (21, 1))),
            "own": ((21, 2), (-4, 1)),
            "doors": ((1, (3, 4)), (0, (12, 1)), (1, (6, 1))),
            "ports": ((0, (-2, 1), (3, 1)), (2, (15, 2), (24, 1)), (1, (-2, 1), (0, 1)), (1, (3, 1), (5, 1))),
            "slack": (2, 7)})

    def test_sizes(self):
        for size in range(1, 11):
            self.same(three_holds().lengthened(size).ends, (-7 * size, 11 * size))
            self.same(f(three_holds().deeper(size).tops[0]), f(r(5 * size)))
        for thing in (0, 11, -1, r(2), *NO_WHOLES):
            self.refused(BadSize, {"size": thing}, three_holds().lengthened, thing)
            self.refused(BadSize, {"size": thing}, three_holds().deeper, thing)
        self.assertEqual(three_holds().lengthened(1), three_holds())
        self.assertEqual(three_holds().deeper(1), three_holds())

    def test_lengthened_beyond_the_bounds(self):
        ship = Ship([hold(0, 100), hold(100, 101)], [r(1)], [(r(0), r(0))], (r(0), r(0)))
        self.refused(BadShip, {"index": 1, "what": "hold"}, ship.lengthened, 10)
        self.same(ship.lengthened(9).ends, (0, 909))
        self.same(ship.deeper(10).ends, (0, 101))

    def test_the_ship_itself_stays(self):
        ship = three_holds()
        for _ in (ship.mirrored(), ship.shifted(2), ship.lengthened(2), ship.deeper(2), ship.split(1, 0),
                  ship.with_top(0, r(5)), ship.without_door(0), ship.without_port(0)):
            self.assertEqual(ship, three_holds())


class Changed(ShipCase):
    def test_split_in_the_middle(self):
        self.same(parts(three_holds().split(1, 3)), {
            "holds": ((-7, -2, 3, (1, 3), (6, 1)), (-2, 3, 2, (3, 4), (11, 2)), (3, 5, 2, (3, 4), (11, 2)),
                      (5, 11, 4, (0, 1), (8, 1))),
            "tops": ((5, 1), (0, 1), (9, 2)),
            "marks": (((-7, 1), (5, 1)), ((1, 2), (16, 3)), ((11, 1), (7, 1))),
            "own": ((7, 2), (-4, 3)),
            "doors": ((2, (1, 4)), (0, (4, 1)), (2, (2, 1))),
            "ports": ((0, (-2, 1), (1, 1)), (3, (15, 2), (8, 1)), (1, (-2, 1), (0, 1)), (1, (3, 1), (5, 3))),
            "slack": (2, 7)})

    def test_ports_at_before_and_behind_the_cut(self):
        self.same(three_holds().split(1, 2).ports[2:], ((1, (-2, 1), (0, 1)), (2, (3, 1), (5, 3))))
        self.same(three_holds().split(2, 7).ports[1], (3, (15, 2), (8, 1)))
        self.same(three_holds().split(2, 8).ports[1], (2, (15, 2), (8, 1)))
        self.same(three_holds().split(2, 8).ports[2:], three_holds().ports[2:])

    def test_split_at_the_ends(self):
        first = three_holds().split(0, -6)
        self.same(first.tops, ((0, 1), (5, 1), (9, 2)))
        self.same(first.doors, ((2, (1, 4)), (1, (4, 1)), (2, (2, 1))))
        self.same([port[0] for port in first.ports], [1, 3, 2, 2])
        last = three_holds().split(2, 6)
        self.same(last.tops, ((5, 1), (9, 2), (0, 1)))
        self.same(last.doors, three_holds().doors)
        self.same([port[0] for port in last.ports], [0, 3, 1, 1])

    def test_wrong_splits(self):
        for thing in (3, -1, *NO_WHOLES):
            self.refused(BadSplit, {"what": "hold"}, three_holds().split, thing, "no place")
        for thing in (-2, 5, -3, 6, r(0), *NO_WHOLES):
            self.refused(BadSplit, {"what": "place"}, three_holds().split, 1, thing)
        self.same([len(three_holds().split(1, place)) for place in range(-1, 5)], [4] * 6)
        self.refused(BadSplit, {"what": "hold"}, six_holds().split, 6, 0)
        self.refused(BadSplit, {"what": "place"}, six_holds().split, 0, -9)
        self.refused(BadShip, {"index": 0, "what": "many"}, six_holds().split, 0, -8)

    def test_with_top(self):
        ship = three_holds().with_top(0, r("11/2"))
        self.same(parts(ship), {**parts(three_holds()), "tops": ((11, 2), (9, 2))})
        self.same(three_holds().with_top(1, r(3)).tops, ((5, 1), (3, 1)))
        for thing in (2, -1, *NO_WHOLES):
            self.refused(BadBulkhead, {"bulkhead": thing}, three_holds().with_top, thing, "no top")
        for thing in (r(6), r(-1), *NO_RATIOS):
            self.refused(BadShip, {"index": 1, "what": "top"}, three_holds().with_top, 1, thing)
        self.refused(BadShip, {"index": 1, "what": "door"}, three_holds().with_top, 0, r(4))
        self.refused(BadShip, {"index": 2, "what": "door"}, three_holds().with_top, 1, r(2))

    def test_without_door(self):
        self.same(parts(three_holds().without_door(0)), {**parts(three_holds()), "doors": ((0, (4, 1)), (1, (2, 1)))})
        self.same(three_holds().without_door(1).doors, ((1, (1, 4)), (1, (2, 1))))
        self.same(three_holds().without_door(2).doors, ((1, (1, 4)), (0, (4, 1))))
        for thing in (3, -1, *NO_WHOLES):
            self.refused(NoSuch, {"number": thing}, three_holds().without_door, thing)
        self.refused(NoSuch, {"number": 0}, one_hold().without_door, 0)

    def test_without_port(self):
        ports = three_holds().ports
        self.same(parts(three_holds().without_port(1)), {**parts(three_holds()), "ports": ports[:1] + ports[2:]})
        self.same(three_holds().without_port(0).ports, ports[1:])
        self.same(three_holds().without_port(3).ports, ports[:3])
        for thing in (4, -1, *NO_WHOLES):
            self.refused(NoSuch, {"number": thing}, three_holds().without_port, thing)
        self.refused(NoSuch, {"number": 0}, four_holds().without_port, 0)


if __name__ == "__main__":
    unittest.main()
