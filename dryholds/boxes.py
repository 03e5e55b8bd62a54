"""Boxes: pieces of cargo that belong in slots, and batches of them."""
from dryholds.errors import BadBatch, BadBoxes
from dryholds.plain import ascending_tuples
from dryholds.ratios import ZERO, compare, is_ratio, is_sequence, is_whole, plus, sum_of
from dryholds.slots import Slots, cargo_by


class Boxes:
    """Slots, and rows of the slot in which a box belongs and its weight."""

    def __init__(self, slots, rows):
        if not isinstance(slots, Slots):
            raise BadBoxes(0, "slots")
        if not is_sequence(rows, 1, 6):
            raise BadBoxes(0, "many")
        for index, row in enumerate(rows):
            if not is_sequence(row, 2, 2):
                raise BadBoxes(index, "box")
            if not is_whole(row[0], 0, len(slots) - 1):
                raise BadBoxes(index, "slot")
            if not is_ratio(row[1]) or compare(row[1], ZERO) <= 0:
                raise BadBoxes(index, "weight")
        self.slots = slots
        self.rows = tuple([tuple(row) for row in rows])

    def __len__(self):
        return len(self.rows)

    def __eq__(self, other):
        return isinstance(other, Boxes) and self.slots == other.slots and self.rows == other.rows


def is_batch(boxes, thing):
    """Whether a thing of any kind is an ascending sequence of box numbers, none twice."""
    if not is_sequence(thing):
        return False
    last = -1
    for box in thing:
        if not is_whole(box, last + 1, len(boxes) - 1):
            return False
        last = box
    return True


def check_batch(boxes, batch):
    """The batch as a tuple."""
    if not is_batch(boxes, batch):
        raise BadBatch()
    return tuple(batch)


def all_batches(boxes):
    """Yields all batches: fewer boxes first, then ascending."""
    batches = ascending_tuples(len(boxes))
    yield from batches


def amounts_when(boxes, batch):
    """The amounts of the slots when exactly these boxes are aboard."""
    amounts = [ZERO] * len(boxes.slots)
    for box in check_batch(boxes, batch):
        slot, weight = boxes.rows[box]
        amounts[slot] = plus(amounts[slot], weight)
    return tuple(amounts)


def cargo_when(boxes, batch):
    """The cargo when exactly these boxes are aboard."""
    return cargo_by(boxes.slots, amounts_when(boxes, batch))


def overfull_at(boxes, batch):
    """None, or what would hold too much with exactly these boxes: ("slot", number) or ("most",)."""
    amounts = amounts_when(boxes, batch)
    for slot, (_, greatest) in enumerate(boxes.slots.rows):
        if compare(amounts[slot], greatest) > 0:
            return ("slot", slot)
    most = boxes.slots.most
    if most is not None and compare(sum_of(amounts), most) > 0:
        return ("most",)
    return None
