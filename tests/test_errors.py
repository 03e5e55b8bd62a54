import inspect
import unittest

from dryholds import errors
from tests.helpers import Case

TOLD = """BadRatio(what) BadShip(index, what) BadBulkhead(bulkhead) BadShift(shift) BadSize(size) BadSplit(what)
NoSuch(number) BadText(row, what) BadLot() BadCargo(what) BadHold(hold) BadPlace(place) BadLine(what)
BadSlots(index, what) BadAmounts(what) BadWeight(weight) BadEnd(end) BadFactor(factor) BadRule(what) BadHalf(what)
BadPoint(index) BadCorners(what) Unbounded() BadDamages(index, what) BadMost(most) BadFloods(index, what)
TooMany(most) OutsideRule() BadNumber(number) NoArea() OtherRule() BadReadings(index, what) NoFit()
BadChange(index, what) NoChange(number) HasDoor(bulkhead) BadBoxes(index, what) BadBatch() NoLading()
CannotStand(batch) Unsafe(loss) WrongBox(box, what) Overfull(slot) NoDeed(number) StillNeeded(number, later)
BadDeed(index)"""


def told_errors():
    """Couples of a name and its attributes."""
    found = []
    for part in " ".join(TOLD.split()).split(")"):
        name, _, inner = part.strip().partition("(")
        if name:
            found.append((name, [word.strip() for word in inner.split(",") if word.strip()]))
    return found


class Errors(Case):
    def test_ship_error_stands_directly_under_value_error(self):
        self.assertEqual(errors.ShipError.__bases__, (ValueError,))

    def test_each_error_stands_directly_under_ship_error(self):
        self.assertEqual(len(told_errors()), 46)
        for name, _ in told_errors():
            with self.subTest(name):
                self.assertEqual(getattr(errors, name).__bases__, (errors.ShipError,))
                self.assertEqual(getattr(errors, name).__module__, "dryholds.errors")

    def test_there_are_no_other_errors(self):
        names = {name for name, thing in vars(errors).items() if inspect.isclass(thing)}
        self.assertEqual(names, {name for name, _ in told_errors()} | {"ShipError"})

    def test_each_error_keeps_its_attributes_in_their_order(self):
        for name, attributes in told_errors():
            with self.subTest(name):
                things = [object() for _ in attributes]
                error = getattr(errors, name)(*things)
                self.assertEqual(list(vars(error).items()), list(zip(attributes, things)))

    def test_each_error_takes_its_attributes_by_name(self):
        for name, attributes in told_errors():
            with self.subTest(name):
                things = {attribute: object() for attribute in attributes}
                self.assertEqual(vars(getattr(errors, name)(**things)), things)

    def test_each_error_takes_no_more_and_no_fewer(self):
        for name, attributes in told_errors():
            with self.subTest(name):
                with self.assertRaises(TypeError):
                    getattr(errors, name)(*attributes, "more")
                if attributes:
                    with self.assertRaises(TypeError):
                        getattr(errors, name)(*attributes[1:])

    def test_each_error_has_a_message(self):
        for name, attributes in told_errors():
            with self.subTest(name):
                self.assertTrue(str(getattr(errors, name)(*attributes)))

    def test_errors_keep_great_numbers_and_odd_things(self):
        odd = [10 ** 5000, [1, [2]], {1: 2}, None, "x" * 1000]
        for thing in odd:
            self.assertIs(errors.BadHold(thing).hold, thing)
            self.assertIs(errors.BadPlace(thing).place, thing)
            self.assertIs(errors.BadBulkhead(thing).bulkhead, thing)


if __name__ == "__main__":
    unittest.main()
