"""The verdict: whether a ship is safe for all cargoes of a rule, all damages and all orders of floods."""
from dryholds.common import barred_behind
from dryholds.damages import check_damages, check_most
from dryholds.floods import can_flood, floods_at
from dryholds.lots import check_cargo, lot_with
from dryholds.lotsfrom import first_loss
from dryholds.rows import counted_rows
from dryholds.wrongs import first_wrong, wrongs_of


class Safe:
    """The ship is safe: one tree of Nodes for each damage shows it."""

    def __init__(self, trees):
        self.trees = trees


class Lost:
    """A cargo, a damage and a row of floods that lose the ship, and the name of the wrong end."""

    def __init__(self, cargo, damage, floods, wrong):
        self.cargo = cargo
        self.damage = damage
        self.floods = floods
        self.wrong = wrong


class Node:
    """A row of floods: its lot, why it comes to no wrong end, and how it goes on."""

    def __init__(self, lot, wrongs, onward):
        self.lot = lot
        self.wrongs = wrongs
        self.onward = onward


def verdict_of(ship, rule, damages, *, most=3000):
    """Safe if no cargo of the rule is lost by a damage, otherwise the first Lost."""
    known = {}
    rows = _rows_or_lost(ship, rule, damages, most, known)
    if isinstance(rows, Lost):
        return rows
    trees = []
    for row in rows:
        if not row.floods:
            trees.append({})
        trees[-1][row.floods] = row
    return Safe(tuple([_node(ship, tree, (), known) for tree in trees]))


def is_safe(ship, rule, damages, *, most=3000):
    """Whether the verdict is Safe."""
    return not isinstance(_rows_or_lost(ship, rule, damages, most, {}), Lost)


def _rows_or_lost(ship, rule, damages, most, known):
    """All rows of floods in a list, or the first Lost."""
    damages = check_damages(ship, damages)
    check_most(most, 1, 3000)
    rows = []
    for row in counted_rows(ship, rule, damages, most):
        for name, half in known_wrongs(ship, row.lot, known):
            lost = [corner for corner in row.corners if half.holds_cargo(corner)]
            if lost:
                return Lost(lost[0], row.damage, row.floods, name)
        rows.append(row)
    return rows


def known_wrongs(ship, lot, known):
    """The wrong ends of a lot; many rows lead to one lot, so a dict keeps what was reckoned for it."""
    return _known(ship, lot, known)[0]


def known_floods(ship, lot, known):
    """All that goes_over tells at a lot, kept likewise."""
    return _known(ship, lot, known)[1]


def _known(ship, lot, known):
    if lot not in known:
        known[lot] = (wrongs_of(ship, lot), floods_at(ship, lot))
    return known[lot]


def _node(ship, rows, floods, known):
    """The Node of a row of floods; the rows of its damage are told by their floods."""
    row = rows[floods]
    wrongs = [barred_behind(row.halves, row.corners, half) for _, half in known_wrongs(ship, row.lot, known)]
    onward = []
    for hold, edge, half in known_floods(ship, row.lot, known):
        longer = floods + ((hold, edge),)
        if longer in rows:
            onward.append((hold, edge, _node(ship, rows, longer, known)))
        else:
            onward.append((hold, edge, barred_behind(row.halves, row.corners, half)))
    return Node(row.lot, tuple(wrongs), tuple(onward))


def loss_of(ship, damages, cargo):
    """The first Lost of one cargo, None if no damage loses it."""
    damages = check_damages(ship, damages)
    cargo = check_cargo(cargo)
    for damage in damages:
        loss = first_loss(ship, damage, cargo)
        if loss is not None:
            _, floods, wrong = loss
            return Lost(cargo, damage, floods, wrong)
    return None


def is_safe_cargo(ship, damages, cargo):
    """Whether no damage loses the cargo."""
    left = list(check_damages(ship, damages))
    cargo = check_cargo(cargo)
    # What comes behind a lot is the same whatever it came from, so each lot is looked at once for all damages.
    seen = set()
    while left:
        lot = left.pop()
        if lot not in seen:
            seen.add(lot)
            if first_wrong(ship, lot, cargo) is not None:
                return False
            left.extend([lot_with(ship, lot, hold) for hold in can_flood(ship, lot, cargo)])
    return True
