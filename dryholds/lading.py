"""Lading: in which orders all boxes can be put aboard so that each batch on the way stands."""
from dryholds.boxes import all_batches, cargo_when, check_batch, is_batch, overfull_at
from dryholds.damages import check_damages
from dryholds.errors import NoLading
from dryholds.plain import as_tuples
from dryholds.ratios import is_sequence, is_whole
from dryholds.verdict import is_safe_cargo


class Lading:
    """An order of all boxes such that each batch on the way stands."""

    def __init__(self, order):
        self.order = as_tuples(order)

    def __eq__(self, other):
        return isinstance(other, Lading) and self.order == other.order


class Stuck:
    """There is no way: the batches that can be come to."""

    def __init__(self, batches):
        self.batches = as_tuples(batches)

    def __eq__(self, other):
        return isinstance(other, Stuck) and self.batches == other.batches


def does_stand(ship, damages, boxes, batch):
    """Whether no slot is overfull, the sum is not above the most, and no damage loses the cargo."""
    damages = check_damages(ship, damages)
    batch = check_batch(boxes, batch)
    return overfull_at(boxes, batch) is None and is_safe_cargo(ship, damages, cargo_when(boxes, batch))


def standing_batches(ship, damages, boxes):
    """All batches that stand: fewer boxes first, then ascending."""
    damages = check_damages(ship, damages)
    return tuple([batch for batch in all_batches(boxes) if does_stand(ship, damages, boxes, batch)])


def batch_with(batch, box):
    """The batch with one more box."""
    return tuple(sorted([*batch, box]))


def batches_above(boxes, batch):
    """Couples of each box that is not aboard, ascending, and the batch with it."""
    return [(box, batch_with(batch, box)) for box in range(len(boxes)) if box not in batch]


def lading_order(ship, damages, boxes):
    """The least Lading, or Stuck."""
    ways = _ways_to_full(ship, damages, boxes)
    if () not in ways:
        return Stuck(())
    if ways[()] == 0:
        return Stuck(_come_to(boxes, ways))
    order = []
    for _ in range(len(boxes)):
        here = tuple(sorted(order))
        order.append([box for box, above in batches_above(boxes, here) if ways.get(above, 0) > 0][0])
    return Lading(order)


def _ways_to_full(ship, damages, boxes):
    """A dict: for each batch that stands, in how many orders the other boxes can be put aboard."""
    ways = {}
    for batch in standing_batches(ship, damages, boxes)[::-1]:
        onward = [ways.get(above, 0) for _, above in batches_above(boxes, batch)]
        ways[batch] = sum(onward) if onward else 1
    return ways


def _come_to(boxes, ways):
    """The batches that can be come to from the empty one, which stands; ways has the batches that stand."""
    found = {(): True}
    for batch in all_batches(boxes):
        if batch in found:
            for _, above in batches_above(boxes, batch):
                if above in ways:
                    found[above] = True
    return tuple([batch for batch in all_batches(boxes) if batch in found])


def order_fault(ship, damages, boxes, order):
    """None if an order of boxes is a lading, otherwise a word."""
    damages = check_damages(ship, damages)
    many = len(boxes)
    if not is_sequence(order, many, many) or not all([is_whole(box) for box in order]):
        return "order"
    if sorted(order) != list(range(many)):
        return "order"
    if not does_stand(ship, damages, boxes, ()):
        return "start"
    for at in range(many):
        if not does_stand(ship, damages, boxes, sorted(order[:at + 1])):
            return "stand"
    return None


def stuck_fault(ship, damages, boxes, batches):
    """None if a set of batches shows that there is no lading, otherwise a word."""
    damages = check_damages(ship, damages)
    if not are_batches(boxes, batches):
        return "batches"
    told = [tuple(batch) for batch in batches]
    if tuple(range(len(boxes))) in told:
        return "full"
    if () not in told and does_stand(ship, damages, boxes, ()):
        return "start"
    onward = [above for batch in told for _, above in batches_above(boxes, batch)]
    return "way" if any_stands(ship, damages, boxes, onward, told) else None


def are_batches(boxes, thing):
    """Whether a thing of any kind is a sequence of batches."""
    return is_sequence(thing) and all([is_batch(boxes, batch) for batch in thing])


def any_stands(ship, damages, boxes, batches, but):
    """Whether some of these batches stands, apart from some others."""
    others = [batch for batch in batches if batch not in but]
    for batch in sorted(set(others)):
        if does_stand(ship, damages, boxes, batch):
            return True
    return False


def ladings_count(ship, damages, boxes):
    """The number of ladings."""
    return _ways_to_full(ship, damages, boxes).get((), 0)


def must_precede(ship, damages, boxes):
    """All couples of boxes, ascending, of which the first comes before the second in every lading."""
    ways = _ways_to_full(ship, damages, boxes)
    if ways.get((), 0) == 0:
        raise NoLading()
    # The couples of which the first comes before the second in some lading.
    before = {}
    for batch in _come_to(boxes, ways):
        for box, above in batches_above(boxes, batch):
            if ways.get(above, 0) > 0:
                for later, _ in batches_above(boxes, above):
                    before[(box, later)] = True
    numbers = range(len(boxes))
    return tuple([(one, other) for one in numbers for other in numbers
                  if one != other and (other, one) not in before])
