"""Cargoes, lots and damages as texts."""
from dryholds.errors import BadText
from dryholds.lots import check_cargo
from dryholds.ratios import ratio_text
from dryholds.words import number_of, whole_of


def cargo_text(cargo):
    """The weight and the moment of a cargo."""
    weight, moment = check_cargo(cargo)
    return f"{ratio_text(weight)} {ratio_text(moment)}"


def parse_cargo(text):
    """The cargo of which this is the text."""
    words = text.split(" ")
    if len(words) != 2:
        raise BadText(0, "size")
    weight, moment = [number_of(word) for word in words]
    if weight is None or moment is None or weight[0] < 0:
        raise BadText(0, "number")
    return (weight, moment)


def lot_text(lot):
    """The holds of a lot."""
    return ",".join([str(hold) for hold in lot]) if lot else "none"


def parse_lot(text):
    """The lot of which this is the text."""
    return read_lot(0, text)


def damages_text(damages):
    """The lots of damages."""
    return " ".join([lot_text(lot) for lot in damages])


def parse_damages(text):
    """The damages of which this is the text."""
    return tuple([read_lot(place, word) for place, word in enumerate(text.split(" "))])


def read_lot(row, word):
    """The lot that a word tells; errors tell the row."""
    if word == "none":
        return ()
    holds = [whole_of(part) for part in word.split(",")]
    for hold in holds:
        if hold is None or hold < 0 or hold > 5:
            raise BadText(row, "number")
    if holds != sorted(set(holds)):
        raise BadText(row, "order")
    return tuple(holds)
