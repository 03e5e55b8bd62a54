"""Rules as texts."""
from dryholds.halfplanes import HalfPlane
from dryholds.ratios import ratio_text
from dryholds.rules import Rule
from dryholds.words import read_row

_FORMS = (("side", "nnn"),)


def rule_text(rule):
    """The rows of a rule."""
    return "\n".join([f"side {ratio_text(side.p)} {ratio_text(side.q)} {ratio_text(side.r)}" for side in rule.sides])


def parse_rule(text):
    """The rule of which this is the text."""
    sides = []
    for number, line in enumerate(text.split("\n")):
        _, values = read_row(number, line, _FORMS)
        sides.append(HalfPlane(values[0], values[1], values[2]))
    return Rule(sides)
