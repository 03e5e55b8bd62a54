"""Losses as texts."""
from dryholds.cargotext import lot_text, read_lot
from dryholds.errors import BadText
from dryholds.ratios import ratio_text
from dryholds.verdict import Lost
from dryholds.words import number_of, whole_of

# The letters of a row's values, by the words that tell its kind: r a ratio, c a whole number from 0, l a lot.
_FORMS = {"cargo": "rr", "damage": "l", "flood bulkhead": "cc", "flood port": "cc",
          "wrong tips": "", "wrong mark": "c", "wrong keel": "c", "wrong deck": "cc"}
_BEHIND = {"": ("cargo",), "cargo": ("damage",), "damage": ("flood", "wrong"), "flood": ("flood", "wrong"),
           "wrong": ()}


def lost_text(lost):
    """The rows of a loss."""
    weight, moment = lost.cargo
    rows = [f"cargo {ratio_text(weight)} {ratio_text(moment)}", f"damage {lot_text(lost.damage)}"]
    for hold, (kind, number) in lost.floods:
        rows.append(f"flood {hold} {kind} {number}")
    rows.append(" ".join(["wrong", *[str(part) for part in lost.wrong]]))
    return "\n".join(rows)


def parse_lost(text):
    """The Lost of which this is the text."""
    rows = []
    before = ""
    for number, line in enumerate(text.split("\n")):
        kind, values = _read_row(number, line)
        first, _, second = kind.partition(" ")
        if first not in _BEHIND[before]:
            raise BadText(number, "order")
        rows.append((first, second, values))
        before = first
    if before != "wrong":
        raise BadText(len(rows), "lacking")
    floods = [(hold, (edge, beside)) for _, edge, (hold, beside) in rows[2:-1]]
    return Lost(rows[0][2], rows[1][2][0], tuple(floods), (rows[-1][1], *rows[-1][2]))


def _read_row(row, line):
    """The words that tell the kind of a row, as one string, and the tuple of its values."""
    words = line.split(" ")
    kind, others = words[0], words[1:]
    if kind == "flood":
        kind, others = " ".join(["flood", *words[2:3]]), words[1:2] + words[3:]
    if kind == "wrong":
        kind, others = " ".join(words[:2]), words[2:]
    if kind not in _FORMS:
        raise BadText(row, "word")
    letters = _FORMS[kind]
    if len(others) != len(letters):
        raise BadText(row, "size")
    values = [_value_of(row, word, letter) for word, letter in zip(others, letters)]
    if None in values:
        raise BadText(row, "number")
    return (kind, tuple(values))


def _value_of(row, word, letter):
    """The value that a word tells, None for another word."""
    if letter == "l":
        return read_lot(row, word)
    if letter == "r":
        return number_of(word)
    number = whole_of(word)
    return None if number is None or number < 0 else number
