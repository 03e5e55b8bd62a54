import unittest

from dryholds.cells import new_halves
from dryholds.charts import chart_of
from dryholds.common import Barred, find_common
from dryholds.compare import Alone, Covered, Cuts, Shut, compare_losses, same_losses
from dryholds.comparejudge import alone_fault, cover_fault
from dryholds.errors import OtherRule
from dryholds.rules import Rule
from tests.helpers import NO_RATIOS, NO_SEQUENCES, NO_WHOLES, Case, all_lots_of, f, four_holds, half, have_common
from tests.helpers import one_hold, point, r, rs
from tests.slices import all_kinds, is_inside
from tests.test_areas import SQUARE, drawn
from tests.test_cells import is_in
from tests.test_charts import DAMAGES, RULE, example
from tests.test_rows import small_rules
from tests.test_verdict import sums_bar
from tests.walks import SHIPS, box, corners_and_more, first_lost_row, some_ships, two_holds

NOTHING = Barred((0,), (1,))


def shown(tree, halves, pieces):
    """How many nodes a tree has; each of them is looked at, by the words of the document."""
    if isinstance(tree, Shut):
        assert sums_bar(halves, tree.barred)
        return 1
    assert isinstance(tree, Cuts) and type(tree.branches) is tuple
    fresh = []
    for one in pieces[tree.piece].halves:
        if one not in halves and one not in fresh:
            fresh.append(one)
    assert len(tree.branches) == len(fresh)
    nodes = 1
    for at, branch in enumerate(tree.branches):
        nodes += shown(branch, (*halves, *fresh[:at], fresh[at].opposite()), pieces)
    return nodes


def trees_told(tree):
    return tree.barred if isinstance(tree, Shut) else (tree.piece, [trees_told(one) for one in tree.branches])


class Classes(Case):
    def test_attributes(self):
        self.same(vars(Covered(trees=[1])), {"trees": (1,)})
        self.same(vars(Alone(cargo=[r(1), r(2)], piece=3)), {"cargo": rs(1, 2), "piece": 3})
        self.same(vars(Cuts(piece=2, branches=[1, 2])), {"piece": 2, "branches": (1, 2)})
        self.assertIs(Shut(barred=NOTHING).barred, NOTHING)

    def test_they_check_nothing(self):
        for thing in (None, 7, "x"):
            self.same((Covered(thing).trees, Shut(thing).barred), (thing, thing))
            self.same((Cuts(thing, thing).branches, Alone(thing, thing).cargo), (thing, thing))

    def test_later_changes_have_no_effect(self):
        given = [Shut(NOTHING)]
        covered, cuts = Covered(given), Cuts(0, given)
        given.append("more")
        self.same((len(covered.trees), len(cuts.branches)), (1, 1))


class Compared(Case):
    def ask(self, one, other):
        """The kind of a comparison, once it is looked at."""
        got = compare_losses(one, other)
        if isinstance(got, Covered):
            self.assertIs(type(got.trees), tuple)
            self.same(len(got.trees), len(one.pieces))
            for tree, piece in zip(got.trees, one.pieces):
                shown(tree, piece.halves, other.pieces)
            self.assertIsNone(cover_fault(one, other, got))
            return "covered"
        self.assertIs(type(got), Alone)
        self.assertTrue(is_in(got.cargo, one.pieces[got.piece].halves))
        self.assertFalse(any(is_in(got.cargo, piece.halves) for piece in other.pieces))
        self.assertIsNone(alone_fault(one, other, got))
        return "alone"

    def both(self, one, other):
        kinds = self.ask(one, other), self.ask(other, one)
        self.same(same_losses(one, other), kinds == ("covered", "covered"))
        self.same(same_losses(other, one), kinds == ("covered", "covered"))
        return kinds


class Charts(Compared):
    def test_the_example(self):
        dry, flooded = example().of_damage(0), example().of_damage(1)
        self.same(self.both(dry, flooded), ("covered", "alone"))
        self.same(self.both(example(), flooded), ("covered", "covered"))
        self.assertIsNone(alone_fault(flooded, dry, Alone(point(50, 0), 0)))
        self.same(compare_losses(flooded, dry).piece, 0)

    def test_ships_of_many_kinds_under_other_damages(self):
        found = {}
        for ship in SHIPS + tuple(some_ships(131, 8)):
            lots = all_lots_of(len(ship))
            for rule in small_rules(ship):
                charts = [chart_of(ship, rule, damages) for damages in ((lots[0],), (lots[1],), (lots[-1], lots[1]))]
                charts = [chart for chart in charts if len(chart) <= 60]
                for at, one in enumerate(charts):
                    for other in charts[at:]:
                        kinds = self.both(one, other)
                        found[kinds] = found.get(kinds, 0) + 1
        self.assertGreater(min(found.values()), 1)
        self.assertEqual(len(found), 4)

    def test_cargo_by_cargo(self):
        for ship in SHIPS[:6]:
            rule, lots = small_rules(ship)[3], all_lots_of(len(ship))
            for one, other in ((lots[:1], lots[1:2]), (lots[1:2], lots[:1]), (lots[:2], lots[-1:])):
                got = compare_losses(chart_of(ship, rule, one), chart_of(ship, rule, other))
                lost = [[any(first_lost_row(ship, damage, cargo) for damage in damages) for damages in (one, other)]
                        for cargo in corners_and_more(rule)]
                if isinstance(got, Covered):
                    self.assertNotIn([True, False], lost)
                else:
                    self.same([any(first_lost_row(ship, damage, got.cargo) for damage in damages) is True
                               for damages in (one, other)], [True, False])

    def test_some_of_the_damages_are_covered_by_all(self):
        for ship in SHIPS + tuple(some_ships(132, 8)):
            lots = tuple(all_lots_of(len(ship))[:3])
            for rule in small_rules(ship)[2:]:
                whole = chart_of(ship, rule, lots)
                if len(whole) > 60:
                    continue
                for some in (lots[:1], lots[1:], lots[::-1], lots[:1] * 2):
                    self.same(self.ask(chart_of(ship, rule, some), whole), "covered")
                self.same(same_losses(whole, chart_of(ship, rule, lots[::-1] + lots)), True)

    def test_ships_with_fewer_ways_for_the_water(self):
        less = 0
        for ship in SHIPS + tuple(some_ships(133, 10)):
            rule, lots = small_rules(ship)[3], tuple(all_lots_of(len(ship))[1:3])
            whole = chart_of(ship, rule, lots)
            if len(whole) > 60:
                continue
            others = [ship.without_door(at) for at in range(len(ship.doors))]
            others += [ship.without_port(at) for at in range(len(ship.ports))]
            for at, top in enumerate(ship.tops):
                deck = min(f(ship.holds[at][4]), f(ship.holds[at + 1][4]))
                others += [ship.with_top(at, r((f(top) + deck) / 2)), ship.with_top(at, r(deck))]
            for other in others:
                better = chart_of(other, rule, lots)
                self.same(self.ask(better, whole), "covered")
                less += self.ask(whole, better) == "alone"
        self.assertGreater(less, 3)

    def test_ships_of_one_rule(self):
        rule = box(0, 60, -100, 100)
        charts = [chart_of(ship, rule, ((),)) for ship in (one_hold(), two_holds(), four_holds())]
        for one in charts:
            for other in charts:
                self.both(one, other)
        # The marks of the first ship stand lower than those of the second.
        self.same(self.both(charts[0], charts[1]), ("covered", "covered"))

    def test_rules_of_one_cargo_and_of_a_stretch(self):
        for rule in (Rule.at(point(50, 0)), box(0, 60, 0, 0), Rule.at(point(0, 0)), box(50, 50, -9, 9)):
            dry, flooded = [chart_of(one_hold(), rule, (damage,)) for damage in ((), (0,))]
            self.same(self.both(dry, flooded)[0], "covered")
        self.same(self.ask(flooded, dry), "alone")

    def test_charts_without_pieces(self):
        rule = box(10, 30, 0, 0)
        empty = chart_of(one_hold(), rule, DAMAGES)
        self.same(len(empty), 0)
        self.same(self.both(empty, empty), ("covered", "covered"))
        self.same(compare_losses(empty, empty).trees, ())
        full = drawn(rule, ((),), [[()]])
        self.same(self.both(empty, full), ("covered", "alone"))


class Drawn(Compared):
    """Charts of any pieces of a square."""

    def ask_drawn(self, one, other):
        return self.ask(*[drawn(SQUARE, ((),), [group]) for group in (one, other)])

    def test_pieces_together_but_none_alone(self):
        whole = [()]
        low, high = half(-1, 0, -3), half(1, 0, 3)
        self.same(self.ask_drawn(whole, [(low,), (high,)]), "covered")
        got = compare_losses(drawn(SQUARE, ((),), [whole]), drawn(SQUARE, ((),), [[(low,), (high,)]]))
        self.assertIn(shape(got.trees[0]), ([0, [[1, ["shut"]]]], [1, [[0, ["shut"]]]]))
        for wanted, parts in (("covered", [(half(-1, 0, -3, True),), (high,)]),
                              ("covered", [(low,), (half(1, 0, 3, True),)]),
                              # The line between them is left.
                              ("alone", [(half(-1, 0, -3, True),), (half(1, 0, 3, True),)]),
                              ("alone", [(low,), (half(1, 0, "31/10"),)]), ("alone", []),
                              ("covered", [(half(2, 0, 6, True),), (half("-1/2", 0, "-3/2"),)])):
            self.same(self.ask_drawn(whole, parts), wanted)
            self.same(self.ask_drawn(parts, whole), "covered")

    def test_the_cargo_that_is_left_on_a_line(self):
        parts = [(half(-1, 0, -3, True),), (half(1, 0, 3, True),), (half(0, 1, 2, True),), (half(0, -1, -2, True),)]
        got = compare_losses(drawn(SQUARE, ((),), [[()]]), drawn(SQUARE, ((),), [parts]))
        self.same((got.cargo, got.piece), (point(3, 2), 0))
        self.same(self.ask_drawn([(half(1, 0, 3, True),)], parts), "covered")
        self.same(self.ask_drawn([(half(1, 0, 3),)], parts), "alone")
        self.same(self.ask_drawn([(half(1, 0, 3), half(-1, 0, -3), half(0, 1, 2, True))], parts), "covered")

    def test_strict_and_closed_half_planes_of_one_line(self):
        closed, strict = (half(1, 1, 5),), (half(1, 1, 5, True),)
        for one, other, wanted in ((closed, strict, "alone"), (strict, closed, "covered"), (strict, strict, "covered"),
                                   ((half(2, 2, 10),), closed, "covered"), ((half(2, 2, 10),), strict, "alone"),
                                   ((half(2, 2, 10, True),), strict, "covered")):
            self.same(self.ask_drawn([one], [other]), wanted)

    def test_three_parts_around_a_point(self):
        parts = [(half(1, 0, 3), half(-1, 1, -3, True)), (half(-1, 1, 0), half(0, 1, 2)),
                 (half(0, -1, -2), half(-1, 0, -3))]
        kinds = {self.ask_drawn([()], parts[:at] + parts[at + 1:]) for at in range(3)}
        self.assertEqual(kinds, {"alone"})
        self.both(drawn(SQUARE, ((),), [[()]]), drawn(SQUARE, ((),), [parts]))

    def test_against_couples_of_all_kinds(self):
        sides = [half(1, 0, 2), half(-1, 0, -4, True), half(0, 1, 3), half(1, -1, 0, True), half(-1, -1, -7),
                 half(2, 1, 9, True), half(0, -1, -3, True), half(-1, 1, 0)]
        found = {}
        for at in range(8):
            one = [(sides[at], sides[(at + 3) % 8]), (sides[(at + 5) % 8],)]
            for step in (1, 2, 3):
                other = [(sides[(at + step) % 8],), (sides[(at + 2 * step) % 8], sides[(at + 4) % 8]),
                         (sides[(at + 6) % 8],)]
                charts = [drawn(SQUARE, ((),), [group]) for group in (one, other)]
                lines = [two for chart in charts for piece in chart.pieces for two in piece.halves]
                left = [couple for couple in all_kinds(lines)
                        if any(is_inside(couple, piece.halves) for piece in charts[0].pieces)
                        and not any(is_inside(couple, piece.halves) for piece in charts[1].pieces)]
                kind = self.ask(*charts)
                self.same(kind, "alone" if left else "covered")
                found[kind] = found.get(kind, 0) + 1
        self.assertGreater(min(found.values()), 3)
        self.assertEqual(len(found), 2)

    def test_a_piece_that_is_empty_is_shut(self):
        # chart_of makes no such piece, but a chart checks nothing.
        got = compare_losses(drawn(SQUARE, ((),), [[(half(1, 0, 7),)]]), drawn(SQUARE, ((),), [[]]))
        self.assertIs(type(got.trees[0]), Shut)

    def test_60_pieces(self):
        strips = [(half(1, at % 3, at_tenth(at)), half(-1, -(at % 3), -at_tenth(at + 2), True)) for at in range(60)]
        whole = drawn(SQUARE, ((),), [[()]])
        fine = drawn(SQUARE, ((),), [strips])
        self.both(whole, fine)
        level = [(half(1, 0, at_tenth(at)), half(-1, 0, -at_tenth(at + 1))) for at in range(60)]
        self.same(self.both(whole, drawn(SQUARE, ((),), [level])), ("covered", "covered"))
        self.same(self.ask_drawn([()], level[:30] + level[31:]), "alone")


def shape(tree):
    """A tree without its Barred."""
    return "shut" if isinstance(tree, Shut) else [tree.piece, [shape(branch) for branch in tree.branches]]


def at_tenth(at):
    return f(r(at, 10))


class OtherRules(Case):
    def test_refused_ahead_of_all_else(self):
        one = example()
        for rule in (Rule(RULE.sides[::-1]), box(0, 60, -100, 99), Rule([*RULE.sides, half(1, 0, -1)])):
            other = chart_of(one_hold(), rule, DAMAGES)
            for call in (compare_losses, same_losses):
                self.refused(OtherRule, {}, call, one, other)
                self.refused(OtherRule, {}, call, other, one)
            for judge in (cover_fault, alone_fault):
                for thing in (None, Covered(()), Alone(None, None)):
                    self.refused(OtherRule, {}, judge, one, other, thing)


class CoverJudge(Case):
    ONE = drawn(SQUARE, ((),), [[(), (half(1, 0, 1),)]])
    OTHER = drawn(SQUARE, ((),), [[(half(1, 0, 2), half(-1, 0, -4), half(0, 1, 2), half(0, -1, -4)),
                                   (half(-1, 0, -3),), (half(1, 0, 3, True), half(0, 1, 2)),
                                   (half(0, -1, -2, True),)]])

    def fault(self, *trees):
        return cover_fault(self.ONE, self.OTHER, Covered(trees))

    def right(self):
        return compare_losses(self.ONE, self.OTHER).trees

    def spoiled(self, tree, path, make):
        """The tree with another node at a path of branches."""
        if not path:
            return make(tree)
        branches = list(tree.branches)
        branches[path[0]] = self.spoiled(branches[path[0]], path[1:], make)
        return Cuts(tree.piece, branches)

    def paths(self, tree, path=()):
        yield path, tree
        if isinstance(tree, Cuts):
            for at, branch in enumerate(tree.branches):
                yield from self.paths(branch, path + (at,))

    def test_right_ones(self):
        trees = self.right()
        self.assertIsNone(self.fault(*trees))
        self.assertIsNone(cover_fault(self.ONE, self.OTHER, Covered(list(trees))))
        self.assertGreater(len(list(self.paths(trees[0]))), 3)

    def test_any_trees_that_are_right(self):
        # Cut first by a piece that holds nothing of the rest, and by the last piece that the cell has a couple in.
        def grown(rows, numbers):
            if not have_common(rows):
                return Shut(find_common(rows))
            number = numbers[0]
            fresh = new_halves(self.OTHER.pieces[number].halves, rows)
            return Cuts(number, [grown((*rows, *fresh[:at], one.opposite()), numbers[1:])
                                 for at, one in enumerate(fresh)])

        for numbers in ((3, 2, 1), (0, 3, 2, 1), (1, 0, 2, 3), (2, 1, 0, 3), (3, 1, 0, 2)):
            self.assertIsNone(self.fault(*[grown(piece.halves, numbers) for piece in self.ONE.pieces]))

    def test_trees(self):
        right = self.right()
        for thing in (None, 7, right, Alone(point(1, 1), 0), Shut(NOTHING), list(right)):
            self.same(cover_fault(self.ONE, self.OTHER, thing), "trees")
        for trees in ((), right[:1], right + right[:1], None, 2, "ab", {0: 1, 1: 2}):
            self.same(cover_fault(self.ONE, self.OTHER, Covered(trees)), "trees")

    def test_node(self):
        for at, tree in enumerate(self.right()):
            for path, _ in self.paths(tree):
                for thing in (None, NOTHING, Covered(()), 0, "x", (), Alone(point(1, 1), 0)):
                    trees = list(self.right())
                    trees[at] = self.spoiled(tree, path, lambda node: thing)
                    self.same(self.fault(*trees), "node")

    def test_piece(self):
        for path, node in self.paths(self.right()[0]):
            if isinstance(node, Cuts):
                for thing in (*NO_WHOLES, -1, 4, 99):
                    tree = self.spoiled(self.right()[0], path, lambda one: Cuts(thing, one.branches))
                    self.same(self.fault(tree, self.right()[1]), "piece")

    def test_branches(self):
        for path, node in self.paths(self.right()[0]):
            if isinstance(node, Cuts):
                for thing in (node.branches + (Shut(NOTHING),), None, 1, "x", *NO_SEQUENCES,
                              *([node.branches[:-1], ()] if node.branches else [])):
                    tree = self.spoiled(self.right()[0], path, lambda one: Cuts(one.piece, thing))
                    self.same(self.fault(tree, self.right()[1]), "branches")

    def test_barred(self):
        shut = 0
        for path, node in self.paths(self.right()[0]):
            if isinstance(node, Shut):
                shut += 1
                for thing in (NOTHING, None, Barred((0, 1, 2), (1, 1, 1)), Barred((), ()), Barred((True, 5), (1, 1)),
                              Barred((0, 99), (1, 1)), node, 0):
                    tree = self.spoiled(self.right()[0], path, lambda one: Shut(thing))
                    self.same(self.fault(tree, self.right()[1]), "barred")
            else:
                # A list with a common couple cannot be shut.
                tree = self.spoiled(self.right()[0], path, lambda one: Shut(NOTHING))
                self.same(self.fault(tree, self.right()[1]), "barred")
        self.assertGreater(shut, 1)

    def test_each_node_ahead_of_its_branches_and_tree_by_tree(self):
        one, other = self.right()
        first = Cuts(one.piece, one.branches + (None,))
        self.same(self.fault(first, None), "branches")
        self.same(self.fault(None, first), "node")
        self.same(self.fault(Cuts(9, None), None), "piece")
        # A fault in the first branch, with all behind it, is told ahead of one in the second.
        fresh = len(one.branches)
        self.assertGreater(fresh, 0)
        pieces = drawn(SQUARE, ((),), [[(half(1, 0, 2), half(-1, 0, -4)), (half(0, 1, 3),)]])
        whole = drawn(SQUARE, ((),), [[()]])
        inner = Cuts(1, [Shut(NOTHING)])
        self.same(cover_fault(whole, pieces, Covered([Cuts(0, [inner, None])])), "barred")
        self.same(cover_fault(whole, pieces, Covered([Cuts(0, [Cuts(1, [Cuts(7, ())]), None])])), "piece")
        self.same(cover_fault(whole, pieces, Covered([Cuts(0, [Cuts(1, []), None])])), "branches")
        self.same(cover_fault(whole, pieces, Covered([Cuts(0, [None, Cuts(7, ())])])), "node")

    def test_a_cuts_without_branches(self):
        inner = drawn(SQUARE, ((),), [[(half(1, 0, 2), half(0, 1, 2))]])
        outer = drawn(SQUARE, ((),), [[(half(1, 0, 2),)]])
        self.assertIsNone(cover_fault(inner, outer, Covered([Cuts(0, [])])))
        self.same(cover_fault(outer, inner, Covered([Cuts(0, [])])), "branches")
        self.same(shape(compare_losses(inner, outer).trees[0]), [0, []])

    def test_100_cuts_within_one_another(self):
        # One new half-plane for each piece: each cut leaves the branch beyond it.
        pieces = [(half(1, 0, at_tenth(60 - at)),) for at in range(1, 60)]
        other = drawn(SQUARE, ((),), [pieces + [()]])
        tree = Cuts(59, ())
        for at in range(58, -1, -1):
            tree = Cuts(at, [tree])
        self.assertIsNone(cover_fault(drawn(SQUARE, ((),), [[()]]), other, Covered([tree])))
        for _ in range(42):
            # Cut by a piece again: its half-plane is new still, for the list has the opposite alone.
            tree = Cuts(0, [tree])
        self.assertIsNone(cover_fault(drawn(SQUARE, ((),), [[()]]), other, Covered([tree])))


class AloneJudge(Case):
    ONE, OTHER = CoverJudge.ONE, drawn(SQUARE, ((),), [[(half(-1, 0, -3),), (half(0, 1, 2, True),)]])

    def fault(self, cargo, piece=0):
        return alone_fault(self.ONE, self.OTHER, Alone(cargo, piece))

    def test_right_ones(self):
        for cargo in (point(4, 2), point(6, 0), point("7/2", "1/3")):
            self.assertIsNone(self.fault(cargo))
            self.assertIsNone(self.fault(cargo, 1))

    def test_each_word(self):
        for thing in (None, 0, Covered(()), point(4, 2), Shut(NOTHING)):
            self.same(alone_fault(self.ONE, self.OTHER, thing), "alone")
        for thing in (*NO_WHOLES, -1, 2):
            self.same(self.fault(point(4, 2), thing), "piece")
            self.same(self.fault(None, thing), "piece")
        for thing in (None, 0, (), point(7, 0), point(4, -1), (r(4),), (4, 2), point(4, 2) + (r(1),)):
            self.same(self.fault(thing), "cargo")
        for thing in NO_RATIOS:
            self.same(self.fault((thing, r(2))), "cargo")
            self.same(self.fault((r(4), thing)), "cargo")
        self.same(self.fault(point("1/2", 0), 1), "cargo")
        self.same(self.fault(point(4, 3)), "covered")
        self.same(self.fault(point(3, 0)), "covered")

    def test_a_chart_without_pieces(self):
        empty = drawn(SQUARE, ((),), [[]])
        self.same(alone_fault(empty, self.OTHER, Alone(point(4, 2), 0)), "piece")
        self.assertIsNone(alone_fault(self.ONE, empty, Alone(point(0, 0), 0)))


if __name__ == "__main__":
    unittest.main()
