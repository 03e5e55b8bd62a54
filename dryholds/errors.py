"""The errors of the package. Each keeps its arguments as attributes of the same names."""


class ShipError(ValueError):
    """Stands above all errors of the package."""


class BadRatio(ShipError):
    def __init__(self, what):
        super().__init__(f"no ratio: {what}")
        self.what = what


class BadShip(ShipError):
    def __init__(self, index, what):
        super().__init__(f"no ship: {what} at item {index}")
        self.index = index
        self.what = what


class BadBulkhead(ShipError):
    def __init__(self, bulkhead):
        super().__init__("no number of a bulkhead")
        self.bulkhead = bulkhead


class BadShift(ShipError):
    def __init__(self, shift):
        super().__init__("a shift is a whole number")
        self.shift = shift


class BadSize(ShipError):
    def __init__(self, size):
        super().__init__("a size is a whole number from 1 to 10")
        self.size = size


class BadSplit(ShipError):
    def __init__(self, what):
        super().__init__(f"no split: {what}")
        self.what = what


class NoSuch(ShipError):
    def __init__(self, number):
        super().__init__("no number of a door or port")
        self.number = number


class BadText(ShipError):
    def __init__(self, row, what):
        super().__init__(f"text not read: {what} in row {row}")
        self.row = row
        self.what = what


class BadLot(ShipError):
    def __init__(self):
        super().__init__("no ascending sequence of holds of the ship")


class BadCargo(ShipError):
    def __init__(self, what):
        super().__init__(f"no cargo: {what}")
        self.what = what


class BadHold(ShipError):
    def __init__(self, hold):
        super().__init__("no hold that can stand here")
        self.hold = hold


class BadPlace(ShipError):
    def __init__(self, place):
        super().__init__("a place is a ratio")
        self.place = place


class BadLine(ShipError):
    def __init__(self, what):
        super().__init__(f"no line: {what}")
        self.what = what


class BadSlots(ShipError):
    def __init__(self, index, what):
        super().__init__(f"no slots: {what} at row {index}")
        self.index = index
        self.what = what


class BadAmounts(ShipError):
    def __init__(self, what):
        super().__init__(f"no amounts: {what}")
        self.what = what


class BadWeight(ShipError):
    def __init__(self, weight):
        super().__init__("a weight is a ratio")
        self.weight = weight


class BadEnd(ShipError):
    def __init__(self, end):
        super().__init__("an end is low or high")
        self.end = end


class BadFactor(ShipError):
    def __init__(self, factor):
        super().__init__("no ratio that can be a factor")
        self.factor = factor


class BadRule(ShipError):
    def __init__(self, what):
        super().__init__(f"no rule: {what}")
        self.what = what


class BadHalf(ShipError):
    def __init__(self, what):
        super().__init__(f"no half-plane: {what}")
        self.what = what


class BadPoint(ShipError):
    def __init__(self, index):
        super().__init__(f"no point at item {index}")
        self.index = index


class BadCorners(ShipError):
    def __init__(self, what):
        super().__init__(f"no corners of a polygon: {what}")
        self.what = what


class Unbounded(ShipError):
    def __init__(self):
        super().__init__("the common points reach without end")


class BadDamages(ShipError):
    def __init__(self, index, what):
        super().__init__(f"no damages: {what} at item {index}")
        self.index = index
        self.what = what


class BadMost(ShipError):
    def __init__(self, most):
        super().__init__("no number that can be the most")
        self.most = most


class BadFloods(ShipError):
    def __init__(self, index, what):
        super().__init__(f"no row of floods: {what} at item {index}")
        self.index = index
        self.what = what


class TooMany(ShipError):
    def __init__(self, most):
        super().__init__(f"more rows of floods than {most}")
        self.most = most


class OutsideRule(ShipError):
    def __init__(self):
        super().__init__("the cargo is not of the rule")


class BadNumber(ShipError):
    def __init__(self, number):
        super().__init__("no index of a damage")
        self.number = number


class NoArea(ShipError):
    def __init__(self):
        super().__init__("the polygon of the rule has no area")


class OtherRule(ShipError):
    def __init__(self):
        super().__init__("the charts have unlike rules")


class BadReadings(ShipError):
    def __init__(self, index, what):
        super().__init__(f"no readings: {what} at row {index}")
        self.index = index
        self.what = what


class NoFit(ShipError):
    def __init__(self):
        super().__init__("nothing fits the readings")


class BadChange(ShipError):
    def __init__(self, index, what):
        super().__init__(f"no change: {what} at item {index}")
        self.index = index
        self.what = what


class NoChange(ShipError):
    def __init__(self, number):
        super().__init__("no standing change has this number")
        self.number = number


class HasDoor(ShipError):
    def __init__(self, bulkhead):
        super().__init__(f"bulkhead {bulkhead} has a door")
        self.bulkhead = bulkhead


class BadBoxes(ShipError):
    def __init__(self, index, what):
        super().__init__(f"no boxes: {what} at row {index}")
        self.index = index
        self.what = what


class BadBatch(ShipError):
    def __init__(self):
        super().__init__("no ascending sequence of boxes")


class NoLading(ShipError):
    def __init__(self):
        super().__init__("there is no lading")


class CannotStand(ShipError):
    def __init__(self, batch):
        super().__init__("the batch does not stand")
        self.batch = batch


class Unsafe(ShipError):
    def __init__(self, loss):
        super().__init__("a damage loses the cargo")
        self.loss = loss


class WrongBox(ShipError):
    def __init__(self, box, what):
        super().__init__(f"the box cannot be moved: {what}")
        self.box = box
        self.what = what


class Overfull(ShipError):
    def __init__(self, slot):
        super().__init__("too much weight would lie in the slots")
        self.slot = slot


class NoDeed(ShipError):
    def __init__(self, number):
        super().__init__("no number of a deed")
        self.number = number


class StillNeeded(ShipError):
    def __init__(self, number, later):
        super().__init__(f"deed {later} needs deed {number}")
        self.number = number
        self.later = later


class BadDeed(ShipError):
    def __init__(self, index):
        super().__init__(f"no deed at item {index}")
        self.index = index
