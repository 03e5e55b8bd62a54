"""Mends: the least choices of changes behind which a ship is safe."""
from dryholds.changes import allowed_weights, behind_changes, checked_changes
from dryholds.damages import check_damages
from dryholds.errors import BadChange
from dryholds.lots import check_cargo
from dryholds.plain import ascending_tuples, is_just
from dryholds.ratios import compare, is_sequence
from dryholds.treejudge import lost_fault, tree_fault
from dryholds.verdict import Lost, Safe, is_safe_cargo, verdict_of


class Mends:
    """The least choices of a pool with what shows that they are good, and the other choices with their losses."""

    def __init__(self, least, losses):
        self.least = least
        self.losses = losses

    @property
    def choices(self):
        """The least choices."""
        return tuple([choice for choice, _ in self.least])

    @property
    def needed(self):
        """The places of the pool that are in every least choice."""
        choices = self.choices
        if not choices:
            return ()
        return tuple([place for place in choices[0] if all([place in choice for choice in choices])])


class Spoiler:
    """A least choice that is not good with one more change of the pool."""

    def __init__(self, choice, added, lost):
        self.choice = choice
        self.added = added
        self.lost = lost


class Pool:
    """A ship, a rule and damages, with a pool of changes that surely are right."""

    def __init__(self, ship, rule, damages, pool):
        self.ship = ship
        self.rule = rule
        self.damages = check_damages(ship, damages)
        if not is_sequence(pool, 1, 5):
            raise BadChange(0, "pool")
        self.changes = checked_changes(ship, rule, pool)

    def chosen(self, choice):
        """The changes of a choice."""
        return tuple([self.changes[place] for place in choice])

    def behind(self, choice):
        """The ship, the rule and the damages behind a choice."""
        return behind_changes(self.ship, self.rule, self.damages, self.chosen(choice))

    def verdict(self, choice):
        """The verdict behind a choice."""
        ship, rule, damages = self.behind(choice)
        return verdict_of(ship, rule, damages)


def find_mends(ship, rule, damages, pool):
    """The Mends of a pool."""
    return _mends_of(Pool(ship, rule, damages, pool))


def _mends_of(pool):
    least = []
    losses = []
    for choice in ascending_tuples(len(pool.changes)):
        if not any([_is_within(good, choice) for good, _ in least]):
            verdict = pool.verdict(choice)
            if isinstance(verdict, Safe):
                least.append((choice, verdict))
            else:
                losses.append((choice, verdict))
    return Mends(tuple(least), tuple(losses))


def _is_within(one, other):
    """Whether each place of one choice is in the other."""
    return all([place in other for place in one])


def mends_fault(ship, rule, damages, pool, mends):
    """None if a Mends is right, otherwise a word; no verdict is asked for."""
    pool = Pool(ship, rule, damages, pool)
    every = ascending_tuples(len(pool.changes))
    if not _are_told(mends.least, every) or not _are_told(mends.losses, every):
        return "order"
    least = [choice for choice, _ in mends.least]
    losses = [choice for choice, _ in mends.losses]
    for good in least:
        others = [choice for choice in least if choice != good] + losses
        if any([_is_within(good, choice) for choice in others]):
            return "within"
    for choice in every:
        if choice not in losses and not any([_is_within(good, choice) for good in least]):
            return "lacking"
    if not all([_is_shown_safe(pool, choice, safe) for choice, safe in mends.least]):
        return "safe"
    if not all([_is_shown_lost(pool, choice, lost) for choice, lost in mends.losses]):
        return "lost"
    return None


def _are_told(pairs, every):
    """Whether a thing is a tuple of pairs that begin with choices, in their order, none twice."""
    if not isinstance(pairs, tuple):
        return False
    last = -1
    for pair in pairs:
        if not isinstance(pair, tuple) or len(pair) != 2:
            return False
        places = [at for at, choice in enumerate(every) if at > last and is_just(pair[0], choice)]
        if not places:
            return False
        last = places[0]
    return True


def _is_shown_safe(pool, choice, safe):
    """Whether a thing is a Safe whose trees show that the ship is safe behind a choice."""
    ship, rule, damages = pool.behind(choice)
    return isinstance(safe, Safe) and tree_fault(ship, rule, damages, safe.trees) is None


def _is_shown_lost(pool, choice, lost):
    """Whether a thing is a Lost that loses the ship behind a choice."""
    ship, rule, damages = pool.behind(choice)
    return isinstance(lost, Lost) and lost_fault(ship, rule, damages, lost) is None


def find_spoilers(ship, rule, damages, pool):
    """A Spoiler for each least choice and each change that must not be added to it."""
    pool = Pool(ship, rule, damages, pool)
    spoilers = []
    verdicts = {}
    for choice in _mends_of(pool).choices:
        for added in [place for place in range(len(pool.changes)) if place not in choice]:
            more = tuple(sorted([*choice, added]))
            if more not in verdicts:
                verdicts[more] = pool.verdict(more)
            if isinstance(verdicts[more], Lost):
                spoilers.append(Spoiler(choice, added, verdicts[more]))
    return tuple(spoilers)


def good_for(ship, rule, damages, pool, cargo):
    """All choices of a pool that are good for one cargo."""
    pool = Pool(ship, rule, damages, pool)
    cargo = check_cargo(cargo)
    return tuple([choice for choice in ascending_tuples(len(pool.changes)) if _is_good_for(pool, choice, cargo)])


def _is_good_for(pool, choice, cargo):
    """Whether a cargo is too heavy to be let by a choice, or no damage behind the choice can lose it."""
    if any([compare(cargo[0], most) > 0 for most in allowed_weights(pool.chosen(choice))]):
        return True
    ship, _, damages = pool.behind(choice)
    return is_safe_cargo(ship, damages, cargo)
