"""Readings: between which heights the line was seen at some places."""
from dryholds.errors import BadReadings
from dryholds.lots import check_cargo, check_lot
from dryholds.postures import Tips, height_at, posture_of
from dryholds.ratios import compare, is_ratio, is_sequence


class Readings:
    """Rows of a place and of two heights between which the line is there."""

    def __init__(self, rows):
        if not is_sequence(rows, 1, 3):
            raise BadReadings(0, "many")
        places = []
        for index, row in enumerate(rows):
            if not is_sequence(row, 3, 3):
                raise BadReadings(index, "row")
            place, low, high = row
            fault = _place_fault(place, places[-1:]) or _heights_fault(low, high)
            if fault is not None:
                raise BadReadings(index, fault)
            places.append(place)
        self.rows = tuple([tuple(row) for row in rows])

    def __len__(self):
        return len(self.rows)

    def __iter__(self):
        return iter(self.rows)

    def __eq__(self, other):
        return isinstance(other, Readings) and self.rows == other.rows

    @staticmethod
    def of(*rows):
        """The readings of these rows."""
        return Readings(rows)

    def with_row(self, place, low, high):
        """The readings with one more row."""
        if len(self.rows) == 3:
            raise BadReadings(0, "many")
        if not is_ratio(place):
            raise BadReadings(0, "place")
        if any([row[0] == place for row in self.rows]):
            raise BadReadings(0, "order")
        fault = _heights_fault(low, high)
        if fault is not None:
            raise BadReadings(0, fault)
        before = [row for row in self.rows if compare(row[0], place) < 0]
        return Readings([*before, (place, low, high), *self.rows[len(before):]])


def _place_fault(place, before):
    """What is wrong with a place behind the one before it, if there is one."""
    if not is_ratio(place):
        return "place"
    if before and compare(place, before[0]) <= 0:
        return "order"
    return None


def _heights_fault(low, high):
    if not is_ratio(low) or not is_ratio(high):
        return "height"
    return "range" if compare(low, high) > 0 else None


def readings_of(ship, lot, cargo, places):
    """What is read at places of a ship with this lot and cargo, or Tips()."""
    lot = check_lot(ship, lot)
    cargo = check_cargo(cargo)
    if not is_sequence(places, 1, 3):
        raise BadReadings(0, "many")
    for index, place in enumerate(places):
        fault = _place_fault(place, places[max(index - 1, 0):index])
        if fault is not None:
            raise BadReadings(index, fault)
    posture = posture_of(ship, lot, cargo)
    if isinstance(posture, Tips):
        return posture
    heights = [height_at(posture, place) for place in places]
    return Readings([(place, height, height) for place, height in zip(places, heights)])
