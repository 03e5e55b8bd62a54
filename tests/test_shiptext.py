import unittest

from dryholds.errors import BadShip, BadText
from dryholds.ship import Ship
from dryholds.shiptext import parse_ship, ship_text
from tests.helpers import BIG, Case, four_holds, hold, one_hold, r, six_holds, three_holds

THREE = """own 7/2 -4/3
slack 2/7
hold -7 -2 3 1/3 6
top 5
hold -2 5 2 3/4 11/2
top 9/2
hold 5 11 4 0 8
mark -7 5
mark 1/2 16/3
mark 11 7
door 1 1/4
door 0 4
door 1 2
port 0 -2 1
port 2 15/2 8
port 1 -2 0
port 1 3 5/3"""
ONE = "own 0 0\nslack 0\nhold -10 10 1 1/2 10\nmark 0 4"
LONG = "1" + "0" * 299


class Writing(Case):
    def test_sign_by_sign(self):
        self.same(ship_text(three_holds()), THREE)
        self.same(ship_text(one_hold()), ONE)

    def test_long_numbers_are_written(self):
        ship = Ship([hold(0, 1)], [], [(r(0), r(0))], ((10 ** 5000, 1), (-1, 10 ** 5000)))
        self.same(ship_text(ship).split("\n")[0], "own 1" + "0" * 5000 + " -1/1" + "0" * 5000)


class Reading(Case):
    def wrong(self, row, what, text):
        self.refused(BadText, {"row": row, "what": what}, parse_ship, text)

    def changed(self, row, line, text=THREE):
        rows = text.split("\n")
        rows[row] = line
        return "\n".join(rows)

    def test_ships_are_read_back(self):
        for ship in (one_hold(), three_holds(), four_holds(), six_holds(), six_holds().mirrored()):
            self.assertEqual(parse_ship(ship_text(ship)), ship)
            self.same(ship_text(parse_ship(ship_text(ship))), ship_text(ship))

    def test_what_is_read_is_made_of_tuples(self):
        ship = parse_ship(THREE)
        self.same(ship.holds, three_holds().holds)
        self.same(ship.ports, three_holds().ports)
        self.same(ship.slack, (2, 7))

    def test_first_words(self):
        for line in ("", " own 0 0", "Own 0 0", "owns 0 0", "own", "keel 1", "hold\t1", "5", "top", "own 0 0 "):
            what = "word" if line.split(" ")[0] not in ("own", "top") else "size"
            self.wrong(0, what, line)
            self.wrong(5, what, self.changed(5, line))
        self.wrong(0, "word", "")
        self.wrong(17, "word", THREE + "\n")
        self.wrong(1, "word", "own 0 0\n\nslack 0")

    def test_sizes(self):
        for row, line in enumerate(THREE.split("\n")):
            self.wrong(row, "size", self.changed(row, line + " 0"))
            self.wrong(row, "size", self.changed(row, line + " "))
            self.wrong(row, "size", self.changed(row, line.replace(" ", "  ", 1)))
            self.wrong(row, "size", self.changed(row, line.rpartition(" ")[0]))
            self.wrong(row, "size", self.changed(row, line.rpartition(" ")[0] + " x y"))

    def test_numbers(self):
        for word in ("", "-0", "+3", "03", "2/4", "3/1", "1/-2", "-", "/", "1/", "/2", "x", "1.5", "1e3", "1/0", "0/1",
                     "--1", "1/2/3", "1_0", "\u0663", "\u00b2", "1\r", "0x1", "-00", "1/02", "0/5", "1/+2", "\t1"):
            for row, line in enumerate(THREE.split("\n")):
                words = line.split(" ")
                for at in range(1, len(words)):
                    self.wrong(row, "number", self.changed(row, " ".join(words[:at] + [word] + words[at + 1:])))

    def test_whole_words_where_a_whole_number_stands(self):
        for row, wholes in ((2, (1, 2, 3)), (10, (1,)), (13, (1,))):
            words = THREE.split("\n")[row].split(" ")
            for at in range(1, len(words)):
                text = self.changed(row, " ".join(words[:at] + ["1/2"] + words[at + 1:]))
                if at in wholes:
                    self.wrong(row, "number", text)
                else:
                    self.assertNotIn("number", str(self.outcome(text)))

    def outcome(self, text):
        try:
            return parse_ship(text)
        except (BadText, BadShip) as error:
            return error.what

    def test_number_words_of_most_signs(self):
        self.same(parse_ship(self.changed(0, f"own {LONG} -{LONG[:-1]}", ONE)).own,
                  ((10 ** 299, 1), (-10 ** 298, 1)))
        self.same(parse_ship(self.changed(0, f"own {LONG[:148]}/{'8' * 150}9 0", ONE)).own[0],
                  (10 ** 147, int("8" * 150 + "9")))
        self.wrong(0, "number", self.changed(0, f"own {LONG}0 0", ONE))
        self.wrong(0, "number", self.changed(0, f"own 0 -{LONG}", ONE))
        self.wrong(0, "number", self.changed(0, f"own {LONG[:149]}/{'8' * 150}9 0", ONE))
        self.wrong(0, "number", self.changed(0, f"own {'9' * 6000} 0", ONE))
        self.wrong(2, "number", self.changed(2, f"hold {LONG}0 1 1 1 1", ONE))

    def test_order_of_the_words_of_one_row(self):
        self.wrong(0, "word", "x\nown")
        self.wrong(1, "size", "mark 0 0\nown x")
        self.wrong(1, "number", "mark 0 0\nown x 0")
        self.wrong(1, "order", "mark 0 0\nown 0 0\nx")

    def test_rows_behind_a_row_of_a_later_kind(self):
        kinds = ["own 0 0", "slack 0", "hold 0 9 1 1 9", "mark 0 0", "door 0 0", "port 0 0 0"]
        for at, line in enumerate(kinds):
            for later in kinds[at + 1:]:
                self.wrong(1, "order", later + "\n" + line)
        for line in kinds[:2]:
            self.wrong(2, "order", f"hold 0 9 1 1 9\ntop 1\n{line}")
        for later in kinds[3:]:
            self.wrong(1, "order", later + "\ntop 1")
            self.wrong(2, "order", f"own 0 0\n{later}\ntop 1")

    def test_second_own_and_slack(self):
        self.wrong(1, "order", "own 0 0\n" + ONE)
        self.wrong(2, "order", ONE.replace("slack 0", "slack 0\nslack 0"))
        self.wrong(2, "order", ONE.replace("slack 0", "slack 0\nown 0 0"))
        self.wrong(4, "order", ONE + "\nslack 0")
        self.wrong(4, "order", ONE + "\nown 1 0")

    def test_tops_and_holds_by_turns(self):
        self.wrong(0, "order", "top 1\n" + ONE)
        self.wrong(2, "order", ONE.replace("slack 0", "slack 0\ntop 1"))
        self.wrong(4, "order", "own 0 0\nslack 0\nhold 0 1 1 1 1\ntop 0\ntop 0\nhold 1 2 1 1 1")
        self.wrong(3, "order", "own 0 0\nslack 0\nhold 0 1 1 1 1\nhold 1 2 1 1 1")
        self.wrong(1, "order", "own 0 0\ntop 0")

    def test_several_marks_doors_and_ports_follow_one_another(self):
        self.assertEqual(parse_ship(ONE + "\nmark 0 4\nport 0 0 1\nport 0 0 1").ports, ((0, r(0), r(1)),) * 2)

    def test_lacking_rows(self):
        self.wrong(3, "lacking", "slack 0\nhold -10 10 1 1/2 10\nmark 0 4")
        self.wrong(3, "lacking", "own 0 0\nhold -10 10 1 1/2 10\nmark 0 4")
        self.wrong(2, "lacking", "hold -10 10 1 1/2 10\nmark 0 4")
        self.wrong(1, "lacking", "mark 0 4")
        self.wrong(1, "lacking", "own 0 0")
        self.wrong(1, "order", "mark 0 4\nslack 0")

    def test_the_ship_is_judged_last(self):
        for text, index, what in (
                ("own 0 0\nslack 0", 0, "many"), ("own 0 0\nslack 0\nhold 0 1 1 1 1", 0, "mark"),
                ("own -1 0\nslack 0\nhold 0 1 1 1 1\nmark 0 0", 0, "own"),
                ("own 0 0\nslack -1\nhold 0 1 1 1 1\nmark 0 0", 0, "slack"),
                ("own 0 0\nslack 0\nhold 0 1 1 1 1\ntop 0\nmark 0 0", 0, "top"),
                ("own 0 0\nslack 0\nhold 0 1 1 1 1\ntop 0\nhold 2 3 1 1 1\nmark 0 0", 1, "joined"),
                ("own 0 0\nslack 0\nhold 0 1 1 2 1\nmark 0 0", 0, "hold"),
                (ONE + "\ndoor 0 0", 0, "door"), (ONE + "\nport 0 0 0\nport 1 0 0", 1, "port")):
            self.refused(BadShip, {"index": index, "what": what}, parse_ship, text)

    def test_great_texts(self):
        ship = Ship([(0, 1, 1, (1, BIG), (BIG, 1))], [], [(r(0), r(0))], (r(0), (-BIG, 1)))
        self.refused(BadText, {"row": 0, "what": "number"}, parse_ship, ship_text(ship))
        small = Ship([(0, 1, 1, (1, 10 ** 297), (BIG, 1))], [], [(r(0), r(0))], (r(0), (-(BIG // 10), 1)))
        self.assertEqual(parse_ship(ship_text(small)), small)


if __name__ == "__main__":
    unittest.main()
