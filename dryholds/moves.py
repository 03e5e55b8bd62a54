"""Moves: boxes put aboard and taken ashore, so that each batch on the way stands."""
from dryholds.boxes import all_batches, check_batch
from dryholds.damages import check_damages
from dryholds.errors import CannotStand
from dryholds.lading import Stuck, any_stands, are_batches, batch_with, batches_above, does_stand, standing_batches
from dryholds.plain import as_tuples
from dryholds.ratios import is_sequence, is_whole


class Moves:
    """A row of deeds."""

    def __init__(self, deeds):
        self.deeds = as_tuples(deeds)

    def __eq__(self, other):
        return isinstance(other, Moves) and self.deeds == other.deeds


def batch_behind(boxes, batch, deed):
    """The batch behind a deed; None if a thing of any kind is no deed that can be done to this batch."""
    if not is_sequence(deed, 2, 2) or not is_whole(deed[1], 0, len(boxes) - 1):
        return None
    word, box = deed
    if word == "load" and box not in batch:
        return batch_with(batch, box)
    if word == "unload" and box in batch:
        return batch_without(batch, box)
    return None


def batch_without(batch, box):
    """The batch without one of its boxes."""
    return tuple([other for other in batch if other != box])


def moves_between(ship, damages, boxes, one, other):
    """Moves of as few deeds as possible from one batch to another, or Stuck."""
    damages, one, other = _checked_ends(ship, damages, boxes, one, other)
    rows = _rows_of_deeds(boxes, one, standing_batches(ship, damages, boxes))
    if other in rows:
        return Moves(rows[other])
    return Stuck([batch for batch in all_batches(boxes) if batch in rows])


def _checked_ends(ship, damages, boxes, one, other):
    """Damages and two batches that stand, as tuples."""
    damages = check_damages(ship, damages)
    one = check_batch(boxes, one)
    other = check_batch(boxes, other)
    for batch in (one, other):
        if not does_stand(ship, damages, boxes, batch):
            raise CannotStand(batch)
    return (damages, one, other)


def _neighbours(boxes, batch):
    """Couples of each deed that can be done to a batch and the batch behind it."""
    loads = [(("load", box), above) for box, above in batches_above(boxes, batch)]
    return loads + [(("unload", box), batch_without(batch, box)) for box in batch]


def _rows_of_deeds(boxes, start, standing):
    """A dict: for each batch that can be come to from a batch by way of those that stand, a row of fewest deeds."""
    rows = {start: ()}
    fresh = [start]
    while fresh:
        behind = []
        for batch in list(fresh):
            for deed, later in _neighbours(boxes, batch):
                if later in standing and later not in rows:
                    rows[later] = rows[batch] + (deed,)
                    behind.append(later)
        fresh = behind
    return rows


def moves_fault(ship, damages, boxes, one, other, deeds):
    """None if deeds lead from one batch to another by way of those that stand, otherwise a word."""
    damages, here, other = _checked_ends(ship, damages, boxes, one, other)
    if not is_sequence(deeds):
        return "deeds"
    for deed in deeds:
        here = batch_behind(boxes, here, deed)
        if here is None:
            return "deed"
        if not does_stand(ship, damages, boxes, here):
            return "stand"
    return None if here == other else "end"


def shut_fault(ship, damages, boxes, one, other, batches):
    """None if batches show that no row of deeds leads from one batch to another, otherwise a word."""
    damages, one, other = _checked_ends(ship, damages, boxes, one, other)
    if not are_batches(boxes, batches):
        return "batches"
    told = [tuple(batch) for batch in batches]
    if one not in told:
        return "start"
    if other in told:
        return "end"
    onward = [later for batch in told for _, later in _neighbours(boxes, batch)]
    return "way" if any_stands(ship, damages, boxes, onward, told) else None
