"""Changes: standing orders, higher tops, shut doors and ports, lighter cargoes."""
from dryholds.damages import check_damages
from dryholds.errors import BadChange
from dryholds.ratios import compare, greatest_of, is_between, is_ratio, is_sequence, is_whole, least_of
from dryholds.rules import Rule
from dryholds.ship import Ship

_LENGTHS = {"order": 3, "raise": 3, "shut": 3, "lighter": 2}


def apply_changes(ship, rule, damages, changes):
    """The ship, the rule and the damages behind changes."""
    damages = check_damages(ship, damages)
    if not is_sequence(changes):
        raise BadChange(0, "sequence")
    return behind_changes(ship, rule, damages, checked_changes(ship, rule, changes))


def is_tame(change):
    """Whether a change is no order."""
    return change[0] != "order"


def checked_changes(ship, rule, changes):
    """The changes of a sequence as a tuple of tuples."""
    for index, change in enumerate(changes):
        fault = change_fault(ship, rule, change)
        if fault is not None:
            raise BadChange(index, fault)
    return tuple([tuple(change) for change in changes])


def change_fault(ship, rule, change):
    """None for a change of a ship and a rule, otherwise a word."""
    if not _has_form(change):
        return "change"
    word, first, last = change[0], change[1], change[-1]
    if word == "order":
        right = is_whole(first, 0, len(ship) - 1) and is_whole(last, 0, len(ship) - 1) and first != last
        return None if right else "hold"
    if word == "raise":
        return _raise_fault(ship, first, last)
    if word == "shut":
        many = len(ship.doors) if first == "door" else len(ship.ports)
        return None if is_whole(last, 0, many - 1) else "number"
    return None if is_between(last, rule.least_weight) and len(rule.sides) < 24 else "weight"


def _has_form(change):
    """Whether a thing of any kind has the first word and the length of a change."""
    if not is_sequence(change, 2, 3) or not isinstance(change[0], str) or change[0] not in _LENGTHS:
        return False
    return len(change) == _LENGTHS[change[0]] and (change[0] != "shut" or change[1] in ("door", "port"))


def _raise_fault(ship, bulkhead, top):
    if not is_whole(bulkhead, 0, len(ship.tops) - 1):
        return "bulkhead"
    deck = least_of([ship.holds[bulkhead][4], ship.holds[bulkhead + 1][4]])
    if not is_ratio(top) or compare(top, ship.tops[bulkhead]) <= 0 or compare(top, deck) > 0:
        return "top"
    return None


def behind_changes(ship, rule, damages, changes):
    """What apply_changes returns; damages and changes surely are right, and tuples throughout."""
    orders = [change[1:] for change in changes if change[0] == "order"]
    return (_ship_behind(ship, changes), _rule_behind(rule, changes),
            tuple([_damage_behind(damage, orders) for damage in damages]))


def _ship_behind(ship, changes):
    """The ship with higher tops, and without the doors and ports that are shut."""
    tops = list(ship.tops)
    for change in changes:
        if change[0] == "raise":
            _, bulkhead, top = change
            tops[bulkhead] = greatest_of([tops[bulkhead], top])
    doors = [door for number, door in enumerate(ship.doors) if ("shut", "door", number) not in changes]
    ports = [port for number, port in enumerate(ship.ports) if ("shut", "port", number) not in changes]
    return Ship(ship.holds, tops, ship.marks, ship.own, doors, ports, ship.slack)


def _rule_behind(rule, changes):
    """The rule of which no cargo is too heavy for a change."""
    weights = allowed_weights(changes)
    return rule.with_most(least_of(weights)) if weights else Rule(rule.sides)


def allowed_weights(changes):
    """The weights of the changes that allow no greater ones."""
    return [change[1] for change in changes if change[0] == "lighter"]


def _damage_behind(damage, orders):
    """The lot that is flooded at the beginning if a damage is answered by orders."""
    return tuple(sorted(set([*damage, *[flood for hit, flood in orders if hit in damage]])))
