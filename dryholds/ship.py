"""A ship: a row of holds with bulkheads, marks, doors and ports."""
from dryholds.errors import BadBulkhead, BadShift, BadShip, BadSize, BadSplit, NoSuch
from dryholds.ratios import ZERO, ONE, is_between, is_ratio, is_sequence, is_whole
from dryholds.ratios import compare, least_of, make_ratio, negative, plus, times


class Ship:
    """A ship that never changes; her sequences are told as tuples."""

    def __init__(self, holds, tops, marks, own, doors=(), ports=(), slack=ZERO):
        self.holds = _checked_holds(holds)
        self.tops = _checked_tops(self.holds, tops)
        self.marks = _checked_marks(self.holds, marks)
        self.own = _checked_own(own)
        self.doors = _checked_doors(self.tops, doors)
        self.ports = _checked_ports(self.holds, ports)
        if not is_between(slack, ZERO):
            raise BadShip(0, "slack")
        self.slack = slack

    def __len__(self):
        return len(self.holds)

    def __eq__(self, other):
        return (isinstance(other, Ship) and self.holds == other.holds and self.tops == other.tops
                and self.marks == other.marks and self.own == other.own and self.doors == other.doors
                and self.ports == other.ports and self.slack == other.slack)

    @property
    def ends(self):
        """The first and the last place."""
        return (self.holds[0][0], self.holds[-1][1])

    def place_of(self, bulkhead):
        """The place of a bulkhead."""
        _check_bulkhead(self, bulkhead)
        return self.holds[bulkhead][1]

    def edge_of(self, bulkhead):
        """The height at which water goes over a bulkhead or through one of its doors."""
        _check_bulkhead(self, bulkhead)
        sills = [sill for beside, sill in self.doors if beside == bulkhead]
        return least_of([self.tops[bulkhead], *sills])

    def mirrored(self):
        """The ship seen from the other side."""
        last = len(self.holds) - 1
        weight, moment = self.own
        return Ship(
            [(-to, -start, breadth, share, deck) for start, to, breadth, share, deck in self.holds[::-1]],
            self.tops[::-1],
            [(negative(place), height) for place, height in self.marks],
            (weight, negative(moment)),
            [(last - 1 - bulkhead, sill) for bulkhead, sill in self.doors],
            [(last - hold, negative(place), sill) for hold, place, sill in self.ports],
            self.slack)

    def shifted(self, shift):
        """The ship with all places moved."""
        if not is_whole(shift):
            raise BadShift(shift)
        weight, moment = self.own
        own = (weight, plus(moment, times(make_ratio(shift), weight)))
        return _with_places(self, 1, shift, own, self.slack)

    def lengthened(self, size):
        """The ship with all lengths so many times as long."""
        factor = _checked_size(size)
        square = times(factor, factor)
        weight, moment = self.own
        own = (times(factor, weight), times(square, moment))
        return _with_places(self, size, 0, own, times(times(square, factor), self.slack))

    def deeper(self, size):
        """The ship with all heights so many times as high."""
        factor = _checked_size(size)
        return Ship(
            [hold[:4] + (times(factor, hold[4]),) for hold in self.holds],
            [times(factor, top) for top in self.tops],
            [(place, times(factor, height)) for place, height in self.marks],
            [times(factor, one) for one in self.own],
            [(bulkhead, times(factor, sill)) for bulkhead, sill in self.doors],
            [(hold, place, times(factor, sill)) for hold, place, sill in self.ports],
            self.slack)

    def split(self, hold, place):
        """The ship with one hold cut in two by a bulkhead of top 0."""
        if not is_whole(hold, 0, len(self.holds) - 1):
            raise BadSplit("hold")
        start, to, breadth, share, deck = self.holds[hold]
        if not is_whole(place, start + 1, to - 1):
            raise BadSplit("place")
        parts = ((start, place, breadth, share, deck), (place, to, breadth, share, deck))
        return Ship(
            self.holds[:hold] + parts + self.holds[hold + 1:],
            self.tops[:hold] + (ZERO,) + self.tops[hold:],
            self.marks,
            self.own,
            [(bulkhead + (1 if bulkhead >= hold else 0), sill) for bulkhead, sill in self.doors],
            [_port_behind(port, hold, place) for port in self.ports],
            self.slack)

    def with_top(self, bulkhead, top):
        """The ship with another top of one bulkhead."""
        _check_bulkhead(self, bulkhead)
        tops = self.tops[:bulkhead] + (top,) + self.tops[bulkhead + 1:]
        return Ship(self.holds, tops, self.marks, self.own, self.doors, self.ports, self.slack)

    def without_door(self, number):
        """The ship without one of her doors."""
        doors = _without(self.doors, number)
        return Ship(self.holds, self.tops, self.marks, self.own, doors, self.ports, self.slack)

    def without_port(self, number):
        """The ship without one of her ports."""
        ports = _without(self.ports, number)
        return Ship(self.holds, self.tops, self.marks, self.own, self.doors, ports, self.slack)


def _checked_holds(holds):
    if not is_sequence(holds, 1, 6):
        raise BadShip(0, "many")
    rows = []
    for index, hold in enumerate(holds):
        if not _is_hold(hold):
            raise BadShip(index, "hold")
        if rows and rows[-1][1] != hold[0]:
            raise BadShip(index, "joined")
        rows.append(tuple(hold))
    return tuple(rows)


def _is_hold(thing):
    if not is_sequence(thing, 5, 5):
        return False
    start, to, breadth, share, deck = thing
    if not is_whole(start, -1000, 1000) or not is_whole(to, -1000, 1000) or start >= to:
        return False
    return is_whole(breadth, 1, 20) and is_between(share, ZERO, ONE) and is_ratio(deck) and compare(deck, ZERO) > 0


def _checked_tops(holds, tops):
    if not is_sequence(tops, len(holds) - 1, len(holds) - 1):
        raise BadShip(0, "top")
    for index, top in enumerate(tops):
        if not is_between(top, ZERO, least_of([holds[index][4], holds[index + 1][4]])):
            raise BadShip(index, "top")
    return tuple(tops)


def _checked_marks(holds, marks):
    if not is_sequence(marks, 1, 4):
        raise BadShip(0, "mark")
    first = make_ratio(holds[0][0])
    last = make_ratio(holds[-1][1])
    for index, mark in enumerate(marks):
        if not is_sequence(mark, 2, 2) or not is_between(mark[0], first, last) or not is_between(mark[1], ZERO):
            raise BadShip(index, "mark")
    return tuple([tuple(mark) for mark in marks])


def _checked_own(own):
    if not is_sequence(own, 2, 2) or not is_between(own[0], ZERO) or not is_ratio(own[1]):
        raise BadShip(0, "own")
    return tuple(own)


def _checked_doors(tops, doors):
    if not is_sequence(doors, 0, 6):
        raise BadShip(0, "door")
    for index, door in enumerate(doors):
        if not is_sequence(door, 2, 2) or not is_whole(door[0], 0, len(tops) - 1):
            raise BadShip(index, "door")
        if not is_between(door[1], ZERO) or compare(door[1], tops[door[0]]) >= 0:
            raise BadShip(index, "door")
    return tuple([tuple(door) for door in doors])


def _checked_ports(holds, ports):
    if not is_sequence(ports, 0, 4):
        raise BadShip(0, "port")
    for index, port in enumerate(ports):
        if not is_sequence(port, 3, 3) or not is_whole(port[0], 0, len(holds) - 1):
            raise BadShip(index, "port")
        start, to, _, _, deck = holds[port[0]]
        if not is_between(port[1], make_ratio(start), make_ratio(to)) or not is_between(port[2], ZERO, deck):
            raise BadShip(index, "port")
    return tuple([tuple(port) for port in ports])


def _check_bulkhead(ship, bulkhead):
    if not is_whole(bulkhead, 0, len(ship.tops) - 1):
        raise BadBulkhead(bulkhead)


def _checked_size(size):
    """The size as a ratio."""
    if not is_whole(size, 1, 10):
        raise BadSize(size)
    return make_ratio(size)


def _with_places(ship, size, shift, own, slack):
    """The ship with each place first times the size and then moved by the shift."""
    factor = make_ratio(size)
    move = make_ratio(shift)
    return Ship(
        [(hold[0] * size + shift, hold[1] * size + shift) + hold[2:] for hold in ship.holds],
        ship.tops,
        [(plus(times(factor, place), move), height) for place, height in ship.marks],
        own,
        ship.doors,
        [(hold, plus(times(factor, place), move), sill) for hold, place, sill in ship.ports],
        slack)


def _port_behind(port, hold, place):
    """The port as it is numbered when a hold is cut at a place."""
    beside, spot, sill = port
    if beside > hold or beside == hold and compare(spot, make_ratio(place)) > 0:
        return (beside + 1, spot, sill)
    return port


def _without(rows, number):
    if not is_whole(number, 0, len(rows) - 1):
        raise NoSuch(number)
    return rows[:number] + rows[number + 1:]
