import unittest

from dryholds.errors import BadText
from dryholds.losttext import lost_text, parse_lost
from dryholds.treejudge import lost_fault
from dryholds.verdict import Lost, loss_of, verdict_of
from tests.helpers import Case, all_lots_of, four_holds, point, r
from tests.test_rows import small_rules
from tests.walks import SHIPS, box, some_cargoes

TEXT = "cargo 80 -7/2\ndamage 3\nflood 2 bulkhead 2\nflood 0 port 1\nwrong mark 1"
LOST = {"cargo": point(80, "-7/2"), "damage": (3,), "floods": ((2, ("bulkhead", 2)), (0, ("port", 1))),
        "wrong": ("mark", 1)}


def with_row(index, row, text=TEXT):
    rows = text.split("\n")
    return "\n".join(rows[:index] + [row] + rows[index + 1:])


class Writing(Case):
    def test_sign_by_sign(self):
        self.same(lost_text(Lost(**LOST)), TEXT)
        for wrong, row in ((("tips",), "wrong tips"), (("mark", 0), "wrong mark 0"), (("keel", 1), "wrong keel 1"),
                           (("deck", 2, 0), "wrong deck 2 0"), (("deck", 0, 1), "wrong deck 0 1")):
            self.same(lost_text(Lost(point(0, 0), (), (), wrong)), f"cargo 0 0\ndamage none\n{row}")
        self.same(lost_text(Lost(point("-1/3", "5/2"), (0, 2, 5), (), ("tips",))),
                  "cargo -1/3 5/2\ndamage 0,2,5\nwrong tips")

    def test_the_loss_of_the_example_of_part_9(self):
        text = "cargo 80 0\ndamage 3\nflood 2 bulkhead 2\nwrong mark 1"
        self.same(lost_text(loss_of(four_holds(), ((3,),), point(80, 0))), text)


class Reading(Case):
    def test_what_was_written(self):
        self.same(vars(parse_lost(TEXT)), LOST)
        self.assertIs(type(parse_lost(TEXT)), Lost)
        many = 0
        for at, ship in enumerate(SHIPS):
            damages = tuple(all_lots_of(len(ship)))
            losses = [loss_of(ship, (damage,), cargo) for damage in damages for cargo in some_cargoes(ship, at, 4)]
            losses += [verdict_of(ship, rule, damages) for rule in small_rules(ship)]
            for lost in losses:
                if isinstance(lost, Lost):
                    many += 1
                    self.same(vars(parse_lost(lost_text(lost))), vars(lost))
        self.assertGreater(many, 100)

    def test_kinds_of_what_is_read(self):
        self.same(vars(parse_lost("cargo -3 0\ndamage none\nwrong tips")),
                  {"cargo": point(-3, 0), "damage": (), "floods": (), "wrong": ("tips",)})
        self.same(parse_lost(with_row(4, "wrong deck 3 1")).wrong, ("deck", 3, 1))
        self.same(parse_lost(with_row(4, "wrong keel 0")).wrong, ("keel", 0))
        self.same(parse_lost(with_row(1, "damage 0,1,2,3,4,5")).damage, (0, 1, 2, 3, 4, 5))

    def test_what_is_read_is_judged_by_its_judge_alone(self):
        for text in (with_row(4, "wrong keel 7"), with_row(4, "wrong mark 99"), with_row(2, "flood 77 port 123"),
                     with_row(0, "cargo -5 0"), with_row(4, "wrong deck 9 9"), with_row(3, "flood 2 bulkhead 2")):
            self.same(lost_text(parse_lost(text)), text)
            self.assertIsNotNone(lost_fault(four_holds(), box(0, 100, 0, 0), ((3,),), parse_lost(text)))
        far = "9" * 300
        self.same(parse_lost(with_row(4, f"wrong mark {far}")).wrong, ("mark", int(far)))
        self.same(lost_text(parse_lost(with_row(2, f"flood {far} port 0"))), with_row(2, f"flood {far} port 0"))

    def test_words(self):
        for index, row in ((0, ""), (0, "Cargo 80 0"), (0, "ship 80 0"), (0, " cargo 80 0"), (1, "damages 3"),
                           (1, ""), (2, "floods 2 bulkhead 2"), (2, "flood"), (2, "flood 2"), (2, "flood 2 "),
                           (2, "flood 2 door 2"), (2, "flood bulkhead 2 2"), (2, "flood  2 bulkhead 2"),
                           (2, "flood x Port 0"), (3, "flood 0 ports"),
                           (4, "wrong"), (4, "wrong "), (4, "wrong marks 1"), (4, "wrong  mark 1"), (4, "wrong 1 mark"),
                           (4, "wrong Tips"), (4, "side 1 2 3")):
            self.refused(BadText, {"row": index, "what": "word"}, parse_lost, with_row(index, row))
        self.refused(BadText, {"row": 0, "what": "word"}, parse_lost, "")
        self.refused(BadText, {"row": 5, "what": "word"}, parse_lost, TEXT + "\n")

    def test_sizes(self):
        for index, row in ((0, "cargo"), (0, "cargo 80"), (0, "cargo 80 0 0"), (0, "cargo 80 0 "), (1, "damage"),
                           (1, "damage 3 3"), (1, "damage 3 "), (2, "flood 2 bulkhead"), (2, "flood 2 bulkhead 2 2"),
                           (2, "flood 2 port 2 "), (4, "wrong tips 0"), (4, "wrong tips "), (4, "wrong mark"),
                           (4, "wrong mark 0 0"), (4, "wrong keel"), (4, "wrong keel 0 1"), (4, "wrong deck 0"),
                           (4, "wrong deck"), (4, "wrong deck 0 0 0")):
            self.refused(BadText, {"row": index, "what": "size"}, parse_lost, with_row(index, row))

    def test_numbers(self):
        bad = ("", "x", "-1", "+1", "01", "-0", "1/2", "2/4", "1.0", "9" * 301, "--1")
        for word in bad:
            for index, row in ((2, f"flood {word} bulkhead 2"), (2, f"flood 2 bulkhead {word}"),
                               (3, f"flood 0 port {word}"), (4, f"wrong mark {word}"),
                               (4, f"wrong keel {word}"), (4, f"wrong deck {word} 0"), (4, f"wrong deck 0 {word}")):
                self.refused(BadText, {"row": index, "what": "number"}, parse_lost, with_row(index, row))
            if word not in ("-1", "1/2"):
                for row in (f"cargo {word} 0", f"cargo 0 {word}"):
                    self.refused(BadText, {"row": 0, "what": "number"}, parse_lost, with_row(0, row))
        for word in ("", "6", "-1", "x", "0,", ",0", "0,,1", "1,0,6", "None", "none,0", "00", "0,1/2"):
            self.refused(BadText, {"row": 1, "what": "number"}, parse_lost, with_row(1, f"damage {word}"))

    def test_orders(self):
        for word in ("1,0", "0,0", "0,2,1"):
            self.refused(BadText, {"row": 1, "what": "order"}, parse_lost, with_row(1, f"damage {word}"))
        cargo, damage, flood, port, wrong = TEXT.split("\n")
        for index, rows in ((0, [damage, cargo, wrong]), (0, [wrong]), (0, [flood, wrong]), (1, [cargo, cargo, damage]),
                            (1, [cargo, flood, wrong]), (1, [cargo, wrong]), (2, [cargo, damage, damage, wrong]),
                            (2, [cargo, damage, cargo]), (3, [cargo, damage, flood, damage]),
                            (3, [cargo, damage, wrong, wrong]), (3, [cargo, damage, wrong, flood]),
                            (4, [cargo, damage, port, wrong, cargo]), (3, [cargo, damage, wrong, damage])):
            self.refused(BadText, {"row": index, "what": "order"}, parse_lost, "\n".join(rows))

    def test_lacking(self):
        cargo, damage, flood, port, _ = TEXT.split("\n")
        for rows in ([cargo], [cargo, damage], [cargo, damage, flood], [cargo, damage, flood, port, flood]):
            self.refused(BadText, {"row": len(rows), "what": "lacking"}, parse_lost, "\n".join(rows))

    def test_the_first_word_where_two_faults_stand(self):
        cargo, damage, flood, _, wrong = TEXT.split("\n")
        for what, row in (("word", "flod 1"), ("word", "flood x"), ("word", "wrong x y z"), ("size", "cargo x"),
                          ("size", "wrong tips x"), ("number", "damage 1,0,x"), ("number", "cargo 1 x"),
                          ("number", "wrong mark -1"), ("order", "damage 1,0"), ("order", "cargo 1 1")):
            # None of these rows may stand behind the row of the wrong end.
            self.refused(BadText, {"row": 3, "what": what}, parse_lost, "\n".join([cargo, damage, wrong, row]))
        # The first wrong row counts, and all rows come ahead of what is lacking.
        self.refused(BadText, {"row": 1, "what": "order"}, parse_lost, "\n".join([cargo, flood, "x", wrong]))
        self.refused(BadText, {"row": 2, "what": "size"}, parse_lost, "\n".join([cargo, damage, "wrong tips 1"]))


class Both(Case):
    def test_text_of_numbers(self):
        self.same(lost_text(parse_lost("cargo 1/3 -2/7\ndamage none\nwrong tips")),
                  "cargo 1/3 -2/7\ndamage none\nwrong tips")
        self.same(parse_lost("cargo 1/3 -2/7\ndamage none\nwrong tips").cargo, (r("1/3"), r("-2/7")))


if __name__ == "__main__":
    unittest.main()
