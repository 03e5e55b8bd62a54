"""Slots, in which cargo lies, and stowages."""
from dryholds.errors import BadAmounts, BadEnd, BadFactor, BadSlots, BadWeight
from dryholds.lots import check_cargo
from dryholds.ratios import ZERO, ONE, is_between, is_ratio, is_sequence
from dryholds.ratios import compare, least_of, make_ratio, minus, negative, order_keys, over, plus, sum_of, times


class Slots:
    """Places with their greatest weights, and perhaps a greatest weight of all together."""

    def __init__(self, rows, most=None):
        if not is_sequence(rows, 1, 6):
            raise BadSlots(0, "many")
        for index, row in enumerate(rows):
            if not is_sequence(row, 2, 2):
                raise BadSlots(index, "row")
            if not is_between(row[0], make_ratio(-1000), make_ratio(1000)):
                raise BadSlots(index, "place")
            if not _is_above_zero(row[1]):
                raise BadSlots(index, "weight")
        if most is not None and not _is_above_zero(most):
            raise BadSlots(0, "most")
        self.rows = tuple([tuple(row) for row in rows])
        self.most = most

    def __len__(self):
        return len(self.rows)

    def __iter__(self):
        return iter(self.rows)

    def __eq__(self, other):
        return isinstance(other, Slots) and self.rows == other.rows and self.most == other.most

    @property
    def total(self):
        """The greatest weight that the slots take."""
        whole = sum_of([weight for _, weight in self.rows])
        return whole if self.most is None else least_of([whole, self.most])

    def mirrored(self):
        """The slots seen from the other side."""
        return Slots([(negative(place), weight) for place, weight in self.rows], self.most)

    def shifted(self, by):
        """The slots with all places moved."""
        if not is_ratio(by):
            raise BadFactor(by)
        return Slots([(plus(place, by), weight) for place, weight in self.rows], self.most)

    def with_most(self, weight):
        """The slots with this bound, or with the bound from before if that is less."""
        if not _is_above_zero(weight):
            raise BadSlots(0, "most")
        return Slots(self.rows, weight if self.most is None else least_of([weight, self.most]))


def _is_above_zero(thing):
    return is_ratio(thing) and compare(thing, ZERO) > 0


def cargo_by(slots, amounts):
    """The cargo that amounts make."""
    if not is_sequence(amounts, len(slots), len(slots)):
        raise BadAmounts("length")
    if not all([is_ratio(amount) for amount in amounts]):
        raise BadAmounts("amount")
    moments = [times(amount, row[0]) for amount, row in zip(amounts, slots.rows)]
    return (sum_of(amounts), sum_of(moments))


def stowage_fault(slots, amounts, cargo):
    """None if amounts are a stowage of the cargo, otherwise a word."""
    weight, moment = check_cargo(cargo)
    if not is_sequence(amounts, len(slots), len(slots)):
        return "length"
    for amount, row in zip(amounts, slots.rows):
        if not is_between(amount, ZERO):
            return "amount"
        if compare(amount, row[1]) > 0:
            return "slot"
    whole, turn = cargo_by(slots, amounts)
    if slots.most is not None and compare(whole, slots.most) > 0:
        return "most"
    if whole != weight:
        return "weight"
    return None if turn == moment else "moment"


def filled_from(slots, weight, end):
    """The amounts that lay a weight into the slots from one end on, None if they do not take it."""
    if not is_ratio(weight):
        raise BadWeight(weight)
    if end not in ("low", "high"):
        raise BadEnd(end)
    if not is_between(weight, ZERO, slots.total):
        return None
    keys = order_keys([place if end == "low" else negative(place) for place, _ in slots.rows])
    amounts = [ZERO] * len(slots)
    left = weight
    for _, number in sorted([(key, number) for number, key in enumerate(keys)]):
        amounts[number] = least_of([left, slots.rows[number][1]])
        left = minus(left, amounts[number])
    return tuple(amounts)


def moments_at(slots, weight):
    """The least and the greatest moment of the stowages of a weight, None if there is none."""
    low = filled_from(slots, weight, "low")
    high = filled_from(slots, weight, "high")
    if low is None:
        return None
    return (cargo_by(slots, low)[1], cargo_by(slots, high)[1])


def stowage_for(slots, cargo):
    """A stowage of the cargo, None if there is none."""
    weight, moment = check_cargo(cargo)
    moments = moments_at(slots, weight)
    if moments is None or not is_between(moment, moments[0], moments[1]):
        return None
    low = filled_from(slots, weight, "low")
    high = filled_from(slots, weight, "high")
    if moments[0] == moments[1]:
        return low
    share = over(minus(moment, moments[0]), minus(moments[1], moments[0]))
    rest = minus(ONE, share)
    return tuple([plus(times(rest, one), times(share, other)) for one, other in zip(low, high)])
