import unittest

from dryholds.common import Barred, Point, find_common
from dryholds.errors import BadDamages
from dryholds.floods import floods_at
from dryholds.rules import Rule
from dryholds.treejudge import lost_fault, tree_fault
from dryholds.verdict import Lost, Node, verdict_of
from dryholds.wrongs import wrongs_of
from tests.helpers import NO_SEQUENCES, Case, half, have_common, one_hold, point, r, three_holds
from tests.test_damages import NO_DAMAGES
from tests.test_rows import LINE, all_orders, halves_along, small_rules
from tests.test_verdict import quiet
from tests.test_ways import open_sea
from tests.walks import SHIPS, box, corners_and_more, rocker, tipping, two_holds, walk, wrong_names

DAMAGES = ((), (0,))
SHIP = open_sea(2)
NOTHING = Barred((0,), (1,))


def trees_of(ship=SHIP, rule=None, damages=DAMAGES):
    return verdict_of(ship, quiet() if rule is None else rule, damages).trees


def part_at(node, path):
    """The node or Barred behind some places in `onward`."""
    for place in path:
        node = node.onward[place][2]
    return node


def put(node, path, part):
    """The tree with another part at a path."""
    if not path:
        return part
    hold, edge, old = node.onward[path[0]]
    triple = (hold, edge, put(old, path[1:], part))
    return Node(node.lot, node.wrongs, node.onward[:path[0]] + (triple,) + node.onward[path[0] + 1:])


def paths(node, path=()):
    """The paths of all nodes of a tree, each before those behind it."""
    yield path
    for place, (_, _, part) in enumerate(node.onward):
        if isinstance(part, Node):
            yield from paths(part, path + (place,))


def full_node(ship, lot, halves):
    """A node all of whose parts are nodes, though no cargo goes through them."""
    wrongs = tuple(find_common([*halves, one]) for _, one in wrongs_of(ship, lot))
    onward = tuple((hold, edge, full_node(ship, tuple(sorted((*lot, hold))), (*halves, one)))
                   for hold, edge, one in floods_at(ship, lot))
    return Node(lot, wrongs, onward)


def lot_fault(node):
    return Node(tuple(9 - hold for hold in node.lot) + (7,), node.wrongs, node.onward)


def missing_fault(node):
    return Node(node.lot, node.wrongs[:-1], node.onward)


def barred_fault_in(node):
    return Node(node.lot, node.wrongs[:-1] + (NOTHING,), node.onward)


SPOILS = (("lot", lot_fault), ("missing", missing_fault), ("barred", barred_fault_in))


class Trees(Case):
    def fault(self, trees, damages=DAMAGES):
        return tree_fault(SHIP, quiet(), damages, trees)

    def spoiled(self, path, node, at=0):
        trees = list(trees_of())
        trees[at] = put(trees[at], path, node)
        return self.fault(tuple(trees))

    def test_right_trees(self):
        self.assertIsNone(self.fault(trees_of()))
        self.assertIsNone(tree_fault(SHIP, quiet(), [[], [0]], trees_of()))
        self.assertIsNone(self.fault(trees_of()[:1], ((),)))

    def test_many(self):
        right = trees_of()
        for trees in ((), right[:1], right + right[:1], (right[0], None), (NOTHING, right[1]), (right[0], "x")):
            self.same(self.fault(trees), "many")
        for thing in NO_SEQUENCES:
            self.same(self.fault(thing), "many")
        # A wrong number is told ahead of a fault in the trees themselves.
        self.same(self.fault((lot_fault(right[0]), None)), "many")

    def test_each_word_at_each_node(self):
        for at, tree in enumerate(trees_of()):
            for path in paths(tree):
                for word, spoil in SPOILS:
                    self.same(self.spoiled(path, spoil(part_at(tree, path)), at), word)

    def test_lots(self):
        tree = trees_of()[1]
        for lot in ((), (1,), (0, 1), (False,), (True,), None, 0, "0", (0, 0)):
            self.same(self.spoiled((), Node(lot, tree.wrongs, tree.onward), 1), "lot")

    def test_missing(self):
        tree = trees_of()[0]
        (hold, edge, part), other = tree.onward
        for wrongs in ((), tree.wrongs[1:], tree.wrongs + tree.wrongs[:1], None):
            self.same(self.spoiled((), Node((), wrongs, tree.onward)), "missing")
        for onward in ((), tree.onward[:1], tree.onward[::-1], tree.onward + (other,), None, (None, other),
                       ((hold, edge), other), ((hold, edge, part, part), other), ((1, edge, part), other),
                       ((False, edge, part), other), ((hold, ("port", False), part), other),
                       ((hold, ("port", 1), part), other), ((hold, ("bulkhead", 0), part), other),
                       ((hold, None, part), other), (other, other)):
            self.same(self.spoiled((), Node((), tree.wrongs, onward)), "missing")

    def test_barred(self):
        tree = trees_of()[0]
        for thing in (NOTHING, None, tree, Barred((0, 1, 2), (1, 1, 1)), Barred((), ()), Barred((True, 5), (1, 1)),
                      Barred((0, 90), (1, 1)), Barred(tree.wrongs[0].indices, (0, 1, 1)), Point(point(0, 0)), "x", 0):
            for at in range(len(tree.wrongs)):
                wrongs = tree.wrongs[:at] + (thing,) + tree.wrongs[at + 1:]
                self.same(self.spoiled((), Node((), wrongs, tree.onward)), "barred")
            if not isinstance(thing, Node):
                self.same(self.spoiled((1,), thing), "barred")
                self.same(self.spoiled((0, 0), thing), "barred")

    def test_a_barred_of_another_half_plane_is_none(self):
        # It contradicts the half-planes, but speaks of others than it is put for.
        tree = trees_of()[0]
        wrongs = tree.wrongs[::-1]
        self.same(self.spoiled((), Node((), wrongs, tree.onward)), "barred")

    def test_a_node_may_stand_where_a_barred_could(self):
        ship, rule, damages = rocker(), box(0, 19, 0, 0), ((),)
        tree = trees_of(ship, rule, damages)[0]
        self.same([type(part) for _, _, part in tree.onward], [Barred, Barred])
        self.assertIsNone(tree_fault(ship, rule, damages, (tree,)))
        for at in (0, 1):
            wrong = tree.onward[1 - at][2]
            self.same(tree_fault(ship, rule, damages, (put(tree, (at,), wrong),)), "barred")
        full = full_node(ship, (), rule.halves)
        self.assertIsNone(tree_fault(ship, rule, damages, (full,)))
        for path in paths(full):
            for word, spoil in SPOILS:
                self.same(tree_fault(ship, rule, damages, (put(full, path, spoil(part_at(full, path))),)), word)

    def test_a_node_of_a_lot_that_tips(self):
        # Nothing goes through the row, so even tipping can be barred; behind it no row goes on.
        ship, rule, damages = tipping(1560), Rule.at(point(0, 0)), ((0,),)
        tree = trees_of(ship, rule, damages)[0]
        hold, edge, one = floods_at(ship, (0,))[0]
        halves = (*rule.halves, one)
        tipped = Node((0, 1), (find_common([*halves, half(0, 0, -1, True)]),), ())
        self.assertIsNone(tree_fault(ship, rule, damages, (put(tree, (0,), tipped),)))
        self.same(tree_fault(ship, rule, damages, (put(tree, (0,), Node((0, 1), (), ())),)), "missing")
        more = ((2, ("bulkhead", 1), NOTHING),)
        self.same(tree_fault(ship, rule, damages, (put(tree, (0,), Node((0, 1), tipped.wrongs, more)),)), "missing")

    def test_the_first_fault_that_is_met(self):
        tree = trees_of()[0]
        for word, spoil in SPOILS:
            # In one node: lot, missing, barred; then the nodes behind it; then the next tree.
            node = tree
            for last, worse in SPOILS[::-1]:
                node = worse(node)
                if last == word:
                    break
            self.same(self.spoiled((), put(node, (0,), lot_fault(part_at(tree, (0,))))), word)
            self.same(self.fault((spoil(tree), lot_fault(trees_of()[1]))), word)

    def test_all_that_follows_on_a_node_comes_before_the_next(self):
        tree = trees_of()[0]
        deep = next(path for path in paths(tree) if len(path) == 2)
        for word, spoil in SPOILS:
            spoiled = put(tree, deep, spoil(part_at(tree, deep)))
            self.same(self.spoiled((), put(spoiled, (1,), lot_fault(part_at(tree, (1,))))), word)
            self.same(self.spoiled((), put(spoiled, (1,), missing_fault(part_at(tree, (1,))))), word)

    def test_barred_parts_are_judged_before_the_nodes_behind(self):
        tree = trees_of()[0]
        both = put(put(tree, (0,), lot_fault(part_at(tree, (0,)))), (1,), NOTHING)
        self.same(self.spoiled((), both), "barred")

    def test_trees_that_show_it_do_so_for_each_cargo(self):
        for ship in SHIPS:
            for rule in small_rules(ship):
                full = full_node(ship, (), rule.halves)
                found = any(have_common((*halves_along(ship, rule, (), floods), one))
                            for floods, lot in all_orders(ship, ()) for _, one in wrongs_of(ship, lot))
                self.same(tree_fault(ship, rule, ((),), (full,)), "barred" if found else None)

    def test_errors(self):
        for index, what, thing in NO_DAMAGES:
            self.refused(BadDamages, {"index": index, "what": what}, tree_fault, three_holds(), LINE, thing, ())
            self.refused(BadDamages, {"index": index, "what": what}, lost_fault, three_holds(), LINE, thing, None)


class Losses(Case):
    SHIP = rocker()
    RULE = box(0, 150, -5, 5)
    DAMAGES = ((1,), ())

    def fault(self, cargo=point(120, 0), damage=(), floods=((0, ("port", 0)),), wrong=("mark", 0)):
        return lost_fault(self.SHIP, self.RULE, self.DAMAGES, Lost(cargo, damage, floods, wrong))

    def test_a_right_one_need_not_be_the_first(self):
        self.assertIsNone(self.fault())
        self.assertIsNone(self.fault(floods=((1, ("port", 1)), (0, ("bulkhead", 0)))))
        self.assertIsNone(self.fault(damage=(1,), floods=()))
        self.same(verdict_of(self.SHIP, self.RULE, self.DAMAGES).damage, (1,))

    def test_damage(self):
        for damage in ((0,), (0, 1), (True,), None, 1, "()", ((),), (1, 1)):
            self.same(self.fault(damage=damage), "damage")
        self.same(lost_fault(self.SHIP, self.RULE, ((1,),), Lost(point(120, 0), (), (), ("mark", 0))), "damage")

    def test_rule(self):
        for cargo in (point(151, 0), point(-1, 0), point(50, 6), (100, 0), ((True, 1), (0, 1)), None, (r(1),),
                      ((2, 2), r(0))):
            self.same(self.fault(cargo=cargo), "rule")

    def test_flood(self):
        for floods in (((0, ("port", 1)),), ((2, ("port", 0)),), ((False, ("port", 0)),), ((0, ("port", False)),),
                       ((0, ("port", 0)), (0, ("port", 0))), ((0, ("bulkhead", 0)),), None, 0, ((0,),), (None,),
                       ((0, ("port", 0)), (1, ("port", 0)))):
            self.same(self.fault(floods=floods), "flood")
        # The cargo does not go through this row: the line just misses the port.
        self.same(self.fault(cargo=point(19, 0), wrong=("keel", 0)), "flood")
        self.same(self.fault(cargo=point("55/2", "-1/1000"), floods=((1, ("port", 1)), (0, ("port", 0)))), "wrong")
        self.same(self.fault(cargo=point("55/2", "1/1000"), floods=((1, ("port", 1)), (0, ("port", 0)))), "flood")

    def test_wrong(self):
        for wrong in (("mark", 1), ("mark", False), ("mark",), "mark", None, 0, ("tips",), ("keel", 0), ("deck", 1, 0),
                      (("mark", 0),), ("Mark", 0), ("mark", 0, 0)):
            self.same(self.fault(wrong=wrong), "wrong")
        self.same(self.fault(cargo=point(20, 0)), "wrong")

    def test_the_first_word_where_two_faults_stand(self):
        self.same(self.fault(cargo=point(151, 0), damage=(0,), floods=None, wrong=None), "damage")
        self.same(self.fault(cargo=point(151, 0), floods=None, wrong=None), "rule")
        self.same(self.fault(floods=None, wrong=None), "flood")

    def test_by_walks(self):
        for ship in SHIPS:
            for rule in small_rules(ship)[2:]:
                for cargo in corners_and_more(rule)[:8]:
                    for floods, lot in walk(ship, (0,), cargo):
                        names = wrong_names(ship, lot, cargo)
                        for name in (("tips",), ("mark", 0), ("deck", 0, 1), ("keel", 1)):
                            wanted = None if name in names else "wrong"
                            self.same(lost_fault(ship, rule, ((), (0,)), Lost(cargo, (0,), floods, name)), wanted)

    def test_every_row_of_another_cargo(self):
        cargo = point(22, 0)
        mine = [floods for floods, _ in walk(self.SHIP, (), cargo)]
        self.assertLess(len(mine), len(all_orders(self.SHIP, ())))
        for floods, _ in all_orders(self.SHIP, ()):
            self.same(self.fault(cargo=cargo, floods=floods), "wrong" if floods in mine else "flood")

    def test_one_hold(self):
        rule = box(0, 60, -100, 100)
        self.assertIsNone(lost_fault(one_hold(), rule, ((0,),), Lost(point(50, 0), (0,), (), ("mark", 0))))
        self.same(lost_fault(one_hold(), rule, ((0,),), Lost(point(40, 0), (0,), (), ("mark", 0))), "wrong")
        self.same(lost_fault(two_holds(), rule, ((0,),), Lost(point(50, 0), (1,), (), ("mark", 0))), "damage")


if __name__ == "__main__":
    unittest.main()
