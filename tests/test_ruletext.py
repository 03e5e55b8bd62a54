import unittest

from dryholds.errors import BadRule, BadText
from dryholds.halfplanes import HalfPlane
from dryholds.rules import Rule, rule_of
from dryholds.ruletext import parse_rule, rule_text
from tests.helpers import BIG, Case, half, r
from tests.test_cargotext import NO_NUMBERS
from tests.test_rules import BOX, around, some_rules, stretch, tent
from tests.test_slots import EXAMPLE

TENT = "side 1/2 1 0\nside 1/2 -1 0\nside -1 0 -6"


class RuleTexts(Case):
    def wrong(self, row, what, text):
        self.refused(BadText, {"row": row, "what": what}, parse_rule, text)

    def test_sign_by_sign(self):
        self.same(rule_text(tent()), TENT)
        self.same(rule_text(Rule([half("-7/2", 0, "-5/3"), *BOX[1:]])),
                  "side -7/2 0 -5/3\nside 0 1 -100\nside 0 -1 -100")

    def test_one_row_for_each_side(self):
        self.same(len(rule_text(Rule(around(24))).split("\n")), 24)
        self.same(rule_text(rule_of(EXAMPLE)).count("side "), len(rule_of(EXAMPLE).sides))

    def test_long_numbers_are_written(self):
        long = HalfPlane((-1, 1), (0, 1), (-10 ** 5000, 1))
        self.same(rule_text(Rule([long, *BOX[1:]])).split("\n")[0], "side -1 0 -1" + "0" * 5000)

    def test_reading(self):
        for rule in [*some_rules(), stretch(), Rule(around(24))]:
            self.assertEqual(parse_rule(rule_text(rule)), rule)
            self.same(rule_text(parse_rule(rule_text(rule))), rule_text(rule))
        great = Rule([HalfPlane((-1, 10 ** 297), (0, 10 ** 0), (-(BIG // 10), 1)), *BOX[1:]])
        self.wrong(0, "number", rule_text(great))
        less = Rule([HalfPlane((-1, 10 ** 296), (0, 1), (-(BIG // 10), 1)), *BOX[1:]])
        self.assertEqual(parse_rule(rule_text(less)), less)

    def test_words(self):
        for line in ("", "sides 1 0 0", " side 1 0 0", "Side 1 0 0", "1 0 0", "top 1"):
            self.wrong(0, "word", line)
            self.wrong(3, "word", TENT + "\n" + line)
        self.wrong(0, "word", "x\nside")

    def test_sizes(self):
        for line in ("side", "side 1", "side 1 0", "side 1 0 0 0", "side 1 0 0 ", "side  1 0 0", "side x"):
            self.wrong(0, "size", line + "\nx")
            self.wrong(3, "size", TENT + "\n" + line)

    def test_numbers(self):
        for word in NO_NUMBERS:
            if "\n" not in word:
                for line in (f"side {word} 1 1", f"side 1 {word} 1", f"side 1 1 {word}"):
                    self.wrong(0, "number", line)
                    self.wrong(3, "number", TENT + "\n" + line + "\nx")

    def test_the_rule_is_judged_last(self):
        for text, what in (("\n".join(["side 1 0 0"] * 25), "many"), ("side 0 0 0", "side"),
                           (TENT + "\nside 0 0 -1", "side"), ("side -1 0 1", "empty"), ("side 1 0 0", "open")):
            self.refused(BadRule, {"what": what}, parse_rule, text)
        self.wrong(25, "word", "\n".join(["side 1 0 0"] * 25) + "\nx")

    def test_strict_is_never_read(self):
        self.assertEqual([side.strict for side in parse_rule(TENT).sides], [False] * 3)
        self.same(parse_rule(TENT).sides[0].p, r("1/2"))


if __name__ == "__main__":
    unittest.main()
