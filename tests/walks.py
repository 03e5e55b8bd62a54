"""Second reckonings for floods: walks over every order, by the document's own words and with fractions."""
import functools
import random
from fractions import Fraction

from dryholds.rules import Rule
from dryholds.ship import Ship
from tests.helpers import f, four_holds, half, hold, line, one_hold, point, r, six_holds, three_holds


@functools.lru_cache(maxsize=None)
def posture(holds, slack, own, lot, cargo):
    """(s, t), or None if a ship of these holds tips."""
    # Doors, ports, marks and tops change no posture, so this ship has none but what she must have.
    ship = Ship(holds, [(0, 1)] * (len(holds) - 1), [((holds[0][0], 1), (0, 1))], own, (), (), slack)
    return line(ship, lot, f(cargo[0]), f(cargo[1]))


def tips(ship, lot):
    return posture(ship.holds, ship.slack, ship.own, lot, ((0, 1), (0, 1))) is None


def height(ship, lot, cargo, place):
    """The height of the line at a place; the ship does not tip."""
    s, t = posture(ship.holds, ship.slack, ship.own, lot, tuple(cargo))
    return s + t * place


def edges_into(ship, lot, number):
    """Rows (edge, place, height) of all edges into a hold."""
    if number in lot or tips(ship, lot):
        return []
    rows = []
    for bulkhead in range(len(ship.holds) - 1):
        if number == bulkhead and bulkhead + 1 in lot or number == bulkhead + 1 and bulkhead in lot:
            heights = [f(ship.tops[bulkhead])] + [f(sill) for beside, sill in ship.doors if beside == bulkhead]
            rows.append((("bulkhead", bulkhead), Fraction(ship.holds[bulkhead][1]), min(heights)))
    for port, (beside, place, sill) in enumerate(ship.ports):
        if beside == number:
            rows.append((("port", port), f(place), f(sill)))
    return rows


def floods_now(ship, lot, cargo):
    """All floods (hold, edge) that can come next, in their order."""
    return [(number, edge) for number in range(len(ship.holds)) for edge, place, bound in edges_into(ship, lot, number)
            if height(ship, lot, cargo, place) >= bound]


def walk(ship, damage, cargo):
    """All rows of floods of one cargo with the lots behind them, shorter ones first, then by their floods."""
    rows = [((), damage)]
    for floods, lot in rows:
        rows.extend((floods + (flood,), tuple(sorted((*lot, flood[0])))) for flood in floods_now(ship, lot, cargo))
    return rows


def lots_by_walk(ship, damage, cargo):
    lots = {lot for _, lot in walk(ship, damage, cargo)}
    return tuple(sorted(lots, key=lambda lot: (len(lot), lot)))


def ends_by_walk(ship, damage, cargo):
    return tuple(lot for lot in lots_by_walk(ship, damage, cargo) if not floods_now(ship, lot, cargo))


def wrong_ends(ship, lot):
    """Rows (name, place, height, way): the line is wrong above the height if way is 1, below it if -1."""
    rows = [(("mark", at), f(place), f(bound), 1) for at, (place, bound) in enumerate(ship.marks)]
    for at, (start, to, _, _, deck) in enumerate(ship.holds):
        rows += [(("deck", at, 0), Fraction(start), f(deck), 1), (("deck", at, 1), Fraction(to), f(deck), 1)]
    rows += [(("keel", 0), Fraction(ship.holds[0][0]), Fraction(0), -1),
             (("keel", 1), Fraction(ship.holds[-1][1]), Fraction(0), -1)]
    return rows


def wrong_names(ship, lot, cargo):
    """The names of all wrong ends that a cargo comes to, in their order."""
    if tips(ship, lot):
        return [("tips",)]
    return [name for name, place, bound, way in wrong_ends(ship, lot)
            if way * (height(ship, lot, cargo, place) - bound) > 0]


def first_lost_row(ship, damage, cargo):
    """(floods, lot, name) of the first row that comes to a wrong lot, None if the cargo is safe."""
    for floods, lot in walk(ship, damage, cargo):
        names = wrong_names(ship, lot, cargo)
        if names:
            return floods, lot, names[0]
    return None


def two_holds(share="1/2", top=3, deck=6, own=(0, 0), slack=0):
    """Two equal holds of length 10 and breadth 1 on both sides of place 0."""
    rows = [hold(-10, 0, 1, share, deck), hold(0, 10, 1, share, deck)]
    return Ship(rows, [r(top)], [(r(0), r(5))], (r(own[0]), r(own[1])), slack=r(slack))


def rocker():
    """Two holds with a port at each end: with the moment 0 and weights from 20 on, less than 55/2, only one floods."""
    rows = [hold(-10, 0), hold(0, 10)]
    return Ship(rows, [r(3)], [(r(0), r(8))], (r(0), r(0)), [], [(0, r(-10), r(1)), (1, r(10), r(1))])


def tipping(slack="8000/3"):
    """Three holds of length 10 about place 0; with slack enough she tips when holds flood."""
    rows = [hold(-15, -5, 1, "1/2", 9), hold(-5, 5, 1, "1/3", 9), hold(5, 15, 1, "1/2", 9)]
    return Ship(rows, [r(1), r(1)], [(r(0), r(8))], (r(0), r(0)), slack=r(slack))


def sieve():
    """A ship with several doors on one bulkhead and several ports on one hold."""
    rows = [hold(-6, -2, 2, "1/2", 8), hold(-2, 2, 2, "2/3", 8), hold(2, 6, 2, "1/2", 7)]
    return Ship(rows, [r(4), r(3)], [(r(-6), r(6)), (r(6), r("13/2"))], (r(4), r(1)),
                [(0, r(2)), (0, r("3/2")), (1, r("5/2")), (0, r(3))],
                [(1, r(-2), r(4)), (2, r(6), r(3)), (1, r(2), r("7/2")), (1, r(0), r(0))])


def shares_of_ends():
    """A ship with the shares 0 and 1 alone, and ports at both ends."""
    rows = [hold(-9, -4, 1, 0, 7), hold(-4, 1, 2, 1, 7), hold(1, 5, 1, 0, 7), hold(5, 9, 2, 1, 7)]
    return Ship(rows, [r(2), r("3/2"), r(2)], [(r(-1), r(6))], (r(10), r(0)), (),
                [(0, r(-9), r(5)), (3, r(9), r("9/2"))])


def some_ships(seed, many):
    """Ships of two to four holds, made by chance, with all that a ship may have."""
    chance = random.Random(seed)
    ships = []
    for _ in range(many):
        start, rows = chance.randint(-12, -3), []
        for _ in range(chance.randint(2, 4)):
            to = start + chance.randint(2, 7)
            share = chance.choice((0, "1/4", "1/2", "1/2", "2/3", 1))
            rows.append(hold(start, to, chance.randint(1, 3), share, chance.randint(4, 9)))
            start = to
        tops = [r(chance.randint(0, 8), 2) for _ in rows[1:]]
        marks = [(r(chance.randint(rows[0][0], start)), r(chance.randint(3, 9)))
                 for _ in range(chance.randint(1, 2))]
        doors = [(at, r(chance.randint(0, 5), 3)) for at, top in enumerate(tops) if chance.random() < 0.2]
        doors = [(at, sill) for at, sill in doors if f(sill) < f(tops[at])]
        ports = []
        for _ in range(chance.choice((0, 0, 1, 2, 3))):
            at = chance.randrange(len(rows))
            ports.append((at, r(chance.randint(rows[at][0], rows[at][1])), r(chance.randint(0, 4))))
        own = (r(chance.choice((0, 0, 3, 10))), r(chance.choice((0, 0, -4, 5))))
        slack = r(chance.choice((0, 0, 0, 1, 100, 400)), chance.choice((1, 2)))
        ships.append(Ship(rows, tops, marks, own, doors, ports, slack))
    return ships


def some_cargoes(ship, seed, many):
    """Cargoes that lay a ship between hardly and quite under."""
    chance = random.Random(seed)
    area = sum(breadth * (to - start) for start, to, breadth, _, _ in ship.holds)
    middle = (ship.holds[0][0] + ship.holds[-1][1]) / Fraction(2)
    cargoes = [point(0, 0)]
    while len(cargoes) < many:
        weight = Fraction(area * chance.randint(0, 30), chance.choice((6, 7)))
        cargoes.append((r(weight), r(weight * (middle + Fraction(chance.randint(-12, 12), 4)))))
    return cargoes


def box(low, high, moment, other):
    """The rule of the cargoes of these weights and moments."""
    return Rule([half(1, 0, low), half(-1, 0, -high), half(0, 1, moment), half(0, -1, -other)])


def corners_and_more(rule):
    """The corners of a rule, and mixtures of them."""
    got = list(rule.corners)
    for one in rule.corners:
        for other in rule.corners:
            for share in (Fraction(1, 2), Fraction(1, 5)):
                got.append(tuple(r(share * f(x) + (1 - share) * f(y)) for x, y in zip(one, other)))
    return got


SHIPS = (one_hold(), four_holds(), three_holds(), two_holds(), rocker(), tipping(1560), sieve(), shares_of_ends())
LARGE = (six_holds(),)
