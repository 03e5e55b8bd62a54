"""The interface: every name stands in its own file, with its arguments; every method stands in its class itself."""
import ast
import importlib
import inspect
import pathlib
import re
import unittest

import dryholds

FOLDER = pathlib.Path(dryholds.__file__).parent

FUNCTIONS = {
    "ratios": """is_whole(thing, low=None, high=None) is_ratio(thing) make_ratio(top, bottom=1) plus(one, other)
        minus(one, other) times(one, other) over(one, other) negative(one) compare(one, other) sum_of(ratios)
        least_of(ratios) greatest_of(ratios) ratio_text(one)""",
    "ship": "",
    "shiptext": "ship_text(ship) parse_ship(text)",
    "halfplanes": "",
    "polygons": """polygon_of(halves) hull_of(points) added_polygons(one, other) cut_polygon(corners, half)
        outside_of(corners, half) twice_area(corners) mean_of(corners) covers_cargo(corners, cargo) halves_of(corners)
        corners_fault(corners)""",
    "common": """find_common(halves) barred_fault(halves, barred) point_fault(halves, point) all_barred(halves)
        needed_halves(halves)""",
    "lots": """check_lot(ship, lot) check_cargo(cargo) check_hold(ship, hold) check_place(place) all_lots(ship)
        lot_with(ship, lot, hold)""",
    "cargotext": """cargo_text(cargo) lot_text(lot) damages_text(damages) parse_cargo(text) parse_lot(text)
        parse_damages(text)""",
    "postures": """sums_of(ship, lot) does_tip(ship, lot) posture_of(ship, lot, cargo) height_at(posture, place)
        line_row(ship, lot, place) line_rows(ship, lot, places) cargo_of(ship, lot, posture)
        posture_fault(ship, lot, cargo, posture) store_of(ship, lot, cargo, posture) is_off(ship, posture)""",
    "lifts": "lift_of(ship, lot, put, seen) even_place(ship, lot) still_place(ship, lot, put)",
    "waters": "push_of(ship, lot, posture, hold) water_of(ship, posture, hold) waters_of(ship, lot, posture)",
    "slots": """cargo_by(slots, amounts) stowage_fault(slots, amounts, cargo) filled_from(slots, weight, end)
        moments_at(slots, weight) stowage_for(slots, cargo)""",
    "rules": """same_cargoes(one, other) is_within(one, other) moments_within(rule, weight)
        reach_of(rule, by_weight, by_moment) parts_by(rule, half) rule_of(slots) corner_stowages(slots)""",
    "ruletext": "rule_text(rule) parse_rule(text)",
    "floods": "goes_over(ship, lot, hold) can_flood(ship, lot, cargo) open_edges(ship, lot, cargo, hold)",
    "wrongs": "wrongs_of(ship, lot) first_wrong(ship, lot, cargo)",
    "lotsfrom": """lots_from(ship, damage, cargo) ends_from(ship, damage, cargo) settle(ship, damage, cargo)
        has_one_end(ship, damage, cargo) is_lost(ship, damage, cargo) must_flood(ship, damage, cargo)
        may_flood(ship, damage, cargo)""",
    "ways": """play_way(ship, damage, cargo, way) way_of(ship, damage, cargo, lot) all_ways(ship, damage, cargo, lot)
        count_ways(ship, damage, cargo, lot) early_loss(ship, damage, cargo)""",
    "forks": "meeting_of(ship, damage, cargo) meeting_fault(ship, damage, cargo, meeting)",
    "rays": """load_of(ship, cargo) cargo_at(ship, cargo, factor) deepening_of(ship, lot, cargo)
        least_factors(ship, damage, cargo) bearing_of(ship, damage, cargo)""",
    "damages": "check_damages(ship, damages) damage_runs(ship, most)",
    "rows": """flood_rows(ship, rule, damage) rows_onward(ship, lot, halves, corners)
        row_along(ship, rule, damage, floods)""",
    "restings": "decide_ends(ship, rule, damages) decided_fault(ship, rule, damages, decided)",
    "verdict": """verdict_of(ship, rule, damages, *, most=3000) is_safe(ship, rule, damages, *, most=3000)
        loss_of(ship, damages, cargo) is_safe_cargo(ship, damages, cargo)""",
    "treejudge": "tree_fault(ship, rule, damages, trees) lost_fault(ship, rule, damages, lost)",
    "heights": """highest_line(ship, rule, damages, place, *, most=3000)
        lowest_line(ship, rule, damages, place, *, most=3000)""",
    "losttext": "lost_text(lost) parse_lost(text)",
    "cells": "cell_of(halves) new_halves(halves, others) cells_left(cells, groups)",
    "charts": "chart_of(ship, rule, damages)",
    "areas": "safe_polygons(chart) lost_share(chart) safe_share(chart) damage_shares(chart) depth_shares(chart)",
    "compare": "compare_losses(one, other) same_losses(one, other)",
    "comparejudge": "cover_fault(one, other, covered) alone_fault(one, other, alone)",
    "readings": "readings_of(ship, lot, cargo, places)",
    "fits": """fitting_rows(ship, rule, damages, readings)
        filling_fault(ship, rule, damages, readings, filling)""",
    "surely": """surely_flooded(fits) possibly_flooded(fits) fitting_damages(fits) weight_range(fits) moment_range(fits)
        height_range(ship, fits, place) two_fillings(fits, hold)""",
    "hidden": "parting_place(ship, one, other) hidden_hold(ship, rule, damages, hold)",
    "fates": "fate_of(ship, fits)",
    "changes": "apply_changes(ship, rule, damages, changes) is_tame(change)",
    "mends": """find_mends(ship, rule, damages, pool) mends_fault(ship, rule, damages, pool, mends)
        find_spoilers(ship, rule, damages, pool) good_for(ship, rule, damages, pool, cargo)""",
    "limits": "lightest_loss(ship, rule, damages) top_limit(ship, rule, damages, bulkhead)",
    "bench": "",
    "boxes": """all_batches(boxes) amounts_when(boxes, batch) cargo_when(boxes, batch) overfull_at(boxes, batch)""",
    "lading": """does_stand(ship, damages, boxes, batch) standing_batches(ship, damages, boxes)
        lading_order(ship, damages, boxes) order_fault(ship, damages, boxes, order)
        stuck_fault(ship, damages, boxes, batches) ladings_count(ship, damages, boxes)
        must_precede(ship, damages, boxes)""",
    "moves": """moves_between(ship, damages, boxes, one, other) moves_fault(ship, damages, boxes, one, other, deeds)
        shut_fault(ship, damages, boxes, one, other, batches)""",
    "log": "",
}
GENERATORS = {("common", "all_barred"), ("lots", "all_lots"), ("ways", "all_ways"), ("rows", "flood_rows"),
              ("rows", "rows_onward"), ("boxes", "all_batches")}
STATIC = ("at", "of", "played")
CLASSES = {
    ("ship", "Ship"): """__init__(self, holds, tops, marks, own, doors=(), ports=(), slack=(0, 1)) ends __len__(self)
        __eq__(self, other) place_of(self, bulkhead) edge_of(self, bulkhead) mirrored(self) shifted(self, shift)
        lengthened(self, size) deeper(self, size) split(self, hold, place) with_top(self, bulkhead, top)
        without_door(self, number) without_port(self, number)""",
    ("halfplanes", "HalfPlane"): """__init__(self, p, q, r, strict=False) reach holds_cargo(self, cargo)
        excess_at(self, cargo) opposite(self) closed(self) is_same(self, other) __eq__(self, other)""",
    ("common", "Point"): "__init__(self, cargo) __eq__(self, other)",
    ("common", "Barred"): "__init__(self, indices, weights) __eq__(self, other)",
    ("postures", "Floating"): "",
    ("postures", "Posture"): "__init__(self, s, t) __eq__(self, other)",
    ("postures", "Tips"): "__eq__(self, other)",
    ("slots", "Slots"): """__init__(self, rows, most=None) total mirrored(self) shifted(self, by)
        with_most(self, weight) __len__(self) __iter__(self) __eq__(self, other)""",
    ("rules", "Rule"): """__init__(self, sides) least_weight greatest_weight at(cargo) mirrored(self) sheared(self, by)
        scaled(self, by_weight, by_moment) with_side(self, half) with_most(self, weight) __contains__(self, cargo)
        __eq__(self, other)""",
    ("ways", "Stopped"): "__init__(self, index) __eq__(self, other)",
    ("ways", "Loss"): "__init__(self, way, lot, wrong) __eq__(self, other)",
    ("forks", "Joined"): "__init__(self, rows) __eq__(self, other)",
    ("forks", "Fork"): "__init__(self, lot, one, other, one_lots, other_lots) __eq__(self, other)",
    ("rays", "Bearing"): "__init__(self, factor, reached) __eq__(self, other)",
    ("rows", "FloodRow"): "__init__(self, damage, lot, floods, halves, corners)",
    ("restings", "OneEnd"): "__init__(self, pairs) __eq__(self, other)",
    ("restings", "TwoEnds"): "__init__(self, cargo, damage, one, other) __eq__(self, other)",
    ("verdict", "Safe"): "__init__(self, trees)",
    ("verdict", "Lost"): "__init__(self, cargo, damage, floods, wrong)",
    ("verdict", "Node"): "__init__(self, lot, wrongs, onward)",
    ("heights", "Reached"): "__init__(self, height, cargo, damage, floods)",
    ("cells", "Cell"): """__init__(self, halves, corners) mean within(self, half) beyond(self, halves)
        __contains__(self, couple) __eq__(self, other)""",
    ("charts", "Piece"): """__init__(self, number, damage, floods, wrong, halves, corners) __contains__(self, cargo)
        __eq__(self, other)""",
    ("charts", "Chart"): """__init__(self, ship, rule, damages, pieces) is_safe loses(self, cargo)
        pieces_at(self, cargo) damages_at(self, cargo) of_damage(self, number) __len__(self) __iter__(self)
        __eq__(self, other)""",
    ("compare", "Covered"): "__init__(self, trees)",
    ("compare", "Alone"): "__init__(self, cargo, piece)",
    ("compare", "Shut"): "__init__(self, barred)",
    ("compare", "Cuts"): "__init__(self, piece, branches)",
    ("readings", "Readings"): """__init__(self, rows) with_row(self, place, low, high) of(*rows) __len__(self)
        __iter__(self) __eq__(self, other)""",
    ("fits", "Fit"): """__init__(self, damage, floods, lot, halves, corners) __contains__(self, cargo)
        __eq__(self, other)""",
    ("fits", "Filling"): "__init__(self, damage, floods, lot, cargo) __eq__(self, other)",
    ("fates", "Fate"): "__init__(self, name) __eq__(self, other)",
    ("fates", "Unsure"): "__init__(self, safe, lost) __eq__(self, other)",
    ("mends", "Mends"): "__init__(self, least, losses) choices needed",
    ("mends", "Spoiler"): "__init__(self, choice, added, lost)",
    ("limits", "Limit"): "__init__(self, value, reached) __eq__(self, other)",
    ("limits", "Sunk"): "__init__(self, lost)",
    ("bench", "Bench"): """__init__(self, ship, rule, damages) put(self, change) take_back(self, number)
        verdict_now(self) trial(self) tried(self, call) __len__(self) __iter__(self)""",
    ("boxes", "Boxes"): "__init__(self, slots, rows) __len__(self) __eq__(self, other)",
    ("lading", "Lading"): "__init__(self, order) __eq__(self, other)",
    ("lading", "Stuck"): "__init__(self, batches) __eq__(self, other)",
    ("moves", "Moves"): "__init__(self, deeds) __eq__(self, other)",
    ("log", "Log"): """__init__(self, ship, damages, boxes) cargo_now cargoes played(ship, damages, boxes, deeds)
        load(self, box) unload(self, box) take_back(self, number) next_boxes(self) tried(self, work) trial(self)
        __len__(self) __iter__(self) __eq__(self, other)""",
}


def told(text):
    """Couples of a name and its arguments; a name without arguments is a property."""
    inner = r"[^()]*(?:\([^()]*\)[^()]*)*"
    found = re.findall(rf"(\w+)(\({inner}\))?", " ".join(text.split()))
    return [(name, arguments or None) for name, arguments in found]


class Interface(unittest.TestCase):
    def test_functions(self):
        for name, text in FUNCTIONS.items():
            module = importlib.import_module(f"dryholds.{name}")
            for function, arguments in told(text):
                with self.subTest(module=name, function=function):
                    thing = vars(module)[function]
                    self.assertTrue(inspect.isfunction(thing))
                    self.assertEqual(thing.__module__, f"dryholds.{name}")
                    self.assertEqual(str(inspect.signature(thing)), arguments)
                    self.assertEqual(inspect.isgeneratorfunction(thing), (name, function) in GENERATORS)

    def test_classes(self):
        for (name, kind), text in CLASSES.items():
            made = vars(importlib.import_module(f"dryholds.{name}"))[kind]
            self.assertTrue(inspect.isclass(made))
            self.assertEqual(made.__module__, f"dryholds.{name}")
            for member, arguments in told(text):
                with self.subTest(kind=kind, member=member):
                    thing = vars(made)[member]
                    if arguments is None:
                        self.assertIsInstance(thing, property)
                    elif member in STATIC:
                        self.assertIsInstance(thing, staticmethod)
                        self.assertEqual(str(inspect.signature(thing.__func__)), arguments)
                    elif member in ("__eq__", "__contains__"):
                        self.assertEqual(len(inspect.signature(thing).parameters), 2)
                    else:
                        self.assertEqual(str(inspect.signature(thing)), arguments)

    def test_constants(self):
        ratios = importlib.import_module("dryholds.ratios")
        self.assertEqual((ratios.ZERO, ratios.ONE), ((0, 1), (1, 1)))


class Files(unittest.TestCase):
    def test_the_package_holds_only_its_modules(self):
        for path in FOLDER.iterdir():
            self.assertTrue(path.suffix == ".py" or path.name == "__pycache__", path.name)

    def test_sizes_and_characters(self):
        for path in sorted(FOLDER.glob("*.py")):
            text = path.read_text(encoding="ascii")
            self.assertNotIn("\t", text)
            self.assertLessEqual(len(text.splitlines()), 399, path.name)
            self.assertLessEqual(max(len(line) for line in text.splitlines()), 120, path.name)
            for node in ast.walk(ast.parse(text)):
                if isinstance(node, ast.FunctionDef):
                    self.assertLessEqual(node.end_lineno - node.lineno + 1, 40, f"{path.name} {node.name}")

    def test_imports_are_from_the_package_and_what_is_allowed(self):
        for path in sorted(FOLDER.glob("*.py")):
            for node in ast.walk(ast.parse(path.read_text(encoding="ascii"))):
                self.assertNotIsInstance(node, ast.Import)
                if isinstance(node, ast.ImportFrom):
                    self.assertTrue(node.module == "math" or node.module.startswith("dryholds."), node.module)


if __name__ == "__main__":
    unittest.main()
