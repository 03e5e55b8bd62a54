"""Ships as texts."""
from dryholds.errors import BadText
from dryholds.ratios import ratio_text
from dryholds.ship import Ship
from dryholds.words import read_row

_FORMS = (("own", "nn"), ("slack", "n"), ("hold", "wwwnn"), ("top", "n"), ("mark", "nn"), ("door", "wn"),
          ("port", "wnn"))
_KINDS = {"own": 0, "slack": 1, "hold": 2, "top": 2, "mark": 3, "door": 4, "port": 5}


def ship_text(ship):
    """The rows of a ship."""
    rows = [_row("own", ship.own), _row("slack", [ship.slack])]
    for number, hold in enumerate(ship.holds):
        if number > 0:
            rows.append(_row("top", [ship.tops[number - 1]]))
        rows.append(_row("hold", hold))
    rows.extend([_row("mark", mark) for mark in ship.marks])
    rows.extend([_row("door", door) for door in ship.doors])
    rows.extend([_row("port", port) for port in ship.ports])
    return "\n".join(rows)


def parse_ship(text):
    """The ship of which this is the text."""
    rows = []
    before = ""
    for number, line in enumerate(text.split("\n")):
        word, values = read_row(number, line, _FORMS)
        if _is_misplaced(word, before):
            raise BadText(number, "order")
        rows.append((word, values))
        before = word
    own = _values("own", rows)
    slack = _values("slack", rows)
    if not own or not slack:
        raise BadText(len(rows), "lacking")
    tops = [values[0] for values in _values("top", rows)]
    return Ship(_values("hold", rows), tops, _values("mark", rows), own[0], _values("door", rows),
                _values("port", rows), slack[0][0])


def _row(word, values):
    texts = [ratio_text(value) if isinstance(value, tuple) else str(value) for value in values]
    return " ".join([word, *texts])


def _is_misplaced(word, before):
    """Whether a row with this word cannot stand behind a row with that word; "" for no row."""
    if word == "top":
        return before != "hold"
    if before == "":
        return False
    # A second own or slack that does not follow the first one directly stands behind a row of a later kind.
    return _KINDS[word] < _KINDS[before] or word == before and word in ("own", "slack", "hold")


def _values(word, rows):
    return [values for first, values in rows if first == word]
