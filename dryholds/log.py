"""The log: the deeds done so far, each of which leaves the ship safe."""
from dryholds.boxes import cargo_when, overfull_at
from dryholds.damages import check_damages
from dryholds.errors import BadDeed, NoDeed, Overfull, StillNeeded, Unsafe, WrongBox
from dryholds.lading import batch_with, does_stand
from dryholds.moves import batch_behind
from dryholds.ratios import is_sequence, is_whole
from dryholds.verdict import is_safe_cargo, loss_of


class Log:
    """The deeds done to boxes on a ship under damages, and the batch aboard."""

    def __init__(self, ship, damages, boxes):
        self.ship = ship
        self.damages = check_damages(ship, damages)
        self.boxes = boxes
        self.deeds = ()
        self.aboard = ()
        self._check_safe(())

    def __len__(self):
        return len(self.deeds)

    def __iter__(self):
        return iter(self.deeds)

    def __eq__(self, other):
        return (isinstance(other, Log) and self.ship == other.ship and self.damages == other.damages
                and self.boxes == other.boxes and self.deeds == other.deeds)

    @property
    def cargo_now(self):
        """The cargo aboard."""
        return cargo_when(self.boxes, self.aboard)

    @property
    def cargoes(self):
        """The cargoes at the beginning and after each deed."""
        batches = [()]
        for deed in self.deeds:
            batches.append(batch_behind(self.boxes, batches[-1], deed))
        return tuple([cargo_when(self.boxes, batch) for batch in batches])

    @staticmethod
    def played(ship, damages, boxes, deeds):
        """A new log with these deeds done one by one."""
        log = Log(ship, damages, boxes)
        if not is_sequence(deeds):
            raise BadDeed(0)
        for index, deed in enumerate(deeds):
            if not is_sequence(deed, 2, 2) or deed[0] not in ("load", "unload"):
                raise BadDeed(index)
            log._do(deed[0], deed[1])
        return log

    def load(self, box):
        """Puts a box aboard; the number of the deed."""
        return self._do("load", box)

    def unload(self, box):
        """Takes a box ashore; the number of the deed."""
        return self._do("unload", box)

    def _do(self, word, box):
        """Does a deed; its number."""
        if not is_whole(box, 0, len(self.boxes) - 1):
            raise WrongBox(box, "none")
        batch = batch_behind(self.boxes, self.aboard, (word, box))
        if batch is None:
            raise WrongBox(box, "aboard" if word == "load" else "ashore")
        full = overfull_at(self.boxes, batch)
        if full is not None:
            raise Overfull(full[1] if full[0] == "slot" else None)
        self._check_safe(batch)
        self.deeds = self.deeds + ((word, box),)
        self.aboard = batch
        return len(self.deeds) - 1

    def _check_safe(self, batch):
        """Refuses a batch whose cargo a damage loses."""
        cargo = cargo_when(self.boxes, batch)
        if not is_safe_cargo(self.ship, self.damages, cargo):
            raise Unsafe(loss_of(self.ship, self.damages, cargo))

    def take_back(self, number):
        """Takes one deed out of the row."""
        if not is_whole(number, 0, len(self.deeds) - 1):
            raise NoDeed(number)
        again = Log(self.ship, self.damages, self.boxes)
        for later, (word, box) in enumerate(self.deeds):
            if later != number:
                try:
                    again._do(word, box)
                except (WrongBox, Overfull, Unsafe):
                    raise StillNeeded(number, later) from None
        self.deeds = again.deeds
        self.aboard = again.aboard

    def next_boxes(self):
        """The boxes, ascending, that load would take now."""
        return tuple([box for box in range(len(self.boxes)) if box not in self.aboard
                      and does_stand(self.ship, self.damages, self.boxes, batch_with(self.aboard, box))])

    def trial(self):
        """An object for one with: at the end of its block the log is as it was before."""
        return LogTrial(self)

    def tried(self, work):
        """What a function returns for the log; behind it the log is as it was before."""
        with self.trial() as held:
            return work(held)


class LogTrial:
    """What a log was when a block was entered."""

    def __init__(self, log):
        self.held = log

    def __enter__(self):
        held = self.held
        self.deeds = held.deeds
        self.aboard = held.aboard
        return held

    def __exit__(self, kind, value, trace):
        held = self.held
        held.deeds = self.deeds
        held.aboard = self.aboard
