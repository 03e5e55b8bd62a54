"""Wrong ends: what must not come of a lot."""
from dryholds.halfplanes import HalfPlane
from dryholds.lots import check_cargo, check_lot
from dryholds.postures import Tips, line_rows
from dryholds.ratios import ZERO, ONE, make_ratio, minus, negative


def wrongs_of(ship, lot):
    """The names of the wrong ends of a lot, each with the half-plane of the cargoes that come to it."""
    lot = check_lot(ship, lot)
    tops = _tops_of(ship)
    ends = [make_ratio(place) for place in ship.ends]
    rows = line_rows(ship, lot, [place for _, place, _ in tops] + ends)
    if isinstance(rows, Tips):
        return ((("tips",), HalfPlane(ZERO, ZERO, negative(ONE), True)),)
    wrongs = []
    for (name, _, height), (p, q, r) in zip(tops, rows):
        wrongs.append((name, HalfPlane(p, q, minus(height, r), True)))
    for end, (p, q, r) in enumerate(rows[len(tops):]):
        wrongs.append((("keel", end), HalfPlane(negative(p), negative(q), r, True)))
    return tuple(wrongs)


def _tops_of(ship):
    """The names of marks and decks with the places and heights above which the line is wrong."""
    marks = [(("mark", number), place, height) for number, (place, height) in enumerate(ship.marks)]
    decks = []
    for hold, (start, to, _, _, deck) in enumerate(ship.holds):
        decks.append((("deck", hold, 0), make_ratio(start), deck))
        decks.append((("deck", hold, 1), make_ratio(to), deck))
    return marks + decks


def first_wrong(ship, lot, cargo):
    """The name of the first wrong end that a cargo comes to, None if the lot is right."""
    lot = check_lot(ship, lot)
    cargo = check_cargo(cargo)
    for name, half in wrongs_of(ship, lot):
        if half.holds_cargo(cargo):
            return name
    return None
