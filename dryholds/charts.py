"""Charts of all cargoes of a rule that can be lost, piece by piece."""
from dryholds.damages import check_damages
from dryholds.errors import BadNumber, OutsideRule
from dryholds.lots import check_cargo
from dryholds.plain import as_tuples
from dryholds.polygons import cut_polygon
from dryholds.ratios import is_whole
from dryholds.rows import flood_rows
from dryholds.verdict import known_wrongs


class Piece:
    """The cargoes that go through one row of floods and come to one wrong end."""

    def __init__(self, number, damage, floods, wrong, halves, corners):
        self.number = number
        self.damage = as_tuples(damage)
        self.floods = as_tuples(floods)
        self.wrong = as_tuples(wrong)
        self.halves = as_tuples(halves)
        self.corners = as_tuples(corners)

    def __eq__(self, other):
        return (isinstance(other, Piece) and self.number == other.number and self.damage == other.damage
                and self.floods == other.floods and self.wrong == other.wrong and self.halves == other.halves
                and self.corners == other.corners)

    def __contains__(self, cargo):
        return all([half.holds_cargo(cargo) for half in self.halves])


class Chart:
    """A ship, a rule and damages, with the pieces of what can be lost."""

    def __init__(self, ship, rule, damages, pieces):
        self.ship = ship
        self.rule = rule
        self.damages = as_tuples(damages)
        self.pieces = as_tuples(pieces)

    def __len__(self):
        return len(self.pieces)

    def __iter__(self):
        return iter(self.pieces)

    def __eq__(self, other):
        return (isinstance(other, Chart) and self.ship == other.ship and self.rule == other.rule
                and self.damages == other.damages)

    @property
    def is_safe(self):
        """Whether there is no piece."""
        return len(self.pieces) == 0

    def loses(self, cargo):
        """Whether some damage can lose a cargo of the rule."""
        return len(self.pieces_at(cargo)) > 0

    def pieces_at(self, cargo):
        """The indices of the pieces that a cargo of the rule is in."""
        cargo = check_cargo(cargo)
        if cargo not in self.rule:
            raise OutsideRule()
        return tuple([index for index, piece in enumerate(self.pieces) if cargo in piece])

    def damages_at(self, cargo):
        """The indices of the damages that can lose a cargo of the rule."""
        return tuple(sorted(set([self.pieces[index].number for index in self.pieces_at(cargo)])))

    def of_damage(self, number):
        """The chart of one damage alone."""
        if not is_whole(number, 0, len(self.damages) - 1):
            raise BadNumber(number)
        pieces = [Piece(0, piece.damage, piece.floods, piece.wrong, piece.halves, piece.corners)
                  for piece in self.pieces if piece.number == number]
        return Chart(self.ship, self.rule, (self.damages[number],), pieces)


def chart_of(ship, rule, damages):
    """The chart of all cargoes of the rule that the damages can lose."""
    damages = check_damages(ship, damages)
    known = {}
    pieces = []
    for number, damage in enumerate(damages):
        for row in flood_rows(ship, rule, damage):
            pieces.extend(pieces_of(ship, number, row, known))
    return Chart(ship, rule, damages, pieces)


def pieces_of(ship, number, row, known):
    """The pieces of one row of floods, one for each wrong end that a cargo comes to."""
    pieces = []
    for name, half in known_wrongs(ship, row.lot, known):
        if any([half.holds_cargo(corner) for corner in row.corners]):
            pieces.append(Piece(number, row.damage, row.floods, name, row.halves + (half,),
                                cut_polygon(row.corners, half)))
    return pieces
