"""The bench, at which changes are put, taken back and tried."""
from dryholds.changes import behind_changes, change_fault
from dryholds.damages import check_damages
from dryholds.errors import BadChange, NoChange
from dryholds.ratios import is_whole
from dryholds.verdict import verdict_of


class Bench:
    """A ship, a rule and damages behind the changes that stand."""

    def __init__(self, ship, rule, damages):
        self.start = (ship, rule, check_damages(ship, damages))
        self.ship, self.rule, self.damages = self.start
        self.standing = ()
        self.log = ()
        self.given = 0

    def __len__(self):
        return len(self.standing)

    def __iter__(self):
        return iter(self.standing)

    def put(self, change):
        """Puts a change; its number."""
        ship, rule, _ = self.start
        fault = change_fault(ship, rule, change)
        if fault is not None:
            raise BadChange(0, fault)
        entry = (self.given + 1, tuple(change))
        self._stand(self.standing + (entry,))
        self.given = entry[0]
        self.log = self.log + (("put", *entry),)
        return self.given

    def take_back(self, number):
        """Takes back the standing change of a number."""
        taken = [entry for entry in self.standing if is_whole(number) and entry[0] == number]
        if not taken:
            raise NoChange(number)
        entry = taken[0]
        self._stand(tuple([other for other in self.standing if other != entry]))
        self.log = self.log + (("back", *entry),)

    def _stand(self, standing):
        """Lets just these changes stand."""
        ship, rule, damages = self.start
        changes = tuple([change for _, change in standing])
        self.ship, self.rule, self.damages = behind_changes(ship, rule, damages, changes)
        self.standing = standing

    def verdict_now(self):
        """The verdict behind the standing changes."""
        return verdict_of(self.ship, self.rule, self.damages)

    def trial(self):
        """An object for one with: at the end of its block the bench is as it was before."""
        return BenchTrial(self)

    def tried(self, call):
        """What a function returns for the bench; behind it the bench is as it was before."""
        with self.trial() as bench:
            return call(bench)


class BenchTrial:
    """What a bench was when a block was entered."""

    def __init__(self, bench):
        self.bench = bench

    def __enter__(self):
        bench = self.bench
        self.ship = bench.ship
        self.rule = bench.rule
        self.damages = bench.damages
        self.standing = bench.standing
        self.log = bench.log
        self.given = bench.given
        return bench

    def __exit__(self, kind, value, trace):
        bench = self.bench
        bench.ship = self.ship
        bench.rule = self.rule
        bench.damages = self.damages
        bench.standing = self.standing
        bench.log = self.log
        bench.given = self.given
