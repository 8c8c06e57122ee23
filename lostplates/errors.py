"""The errors that the package raises."""


class PlateError(ValueError):
    """The base class of all errors that the package raises."""


class InvalidHouse(PlateError):
    """A parameter of a house is not as it must be."""

    def __init__(self, part):
        super().__init__(f"the {part} of a house cannot be such")
        self.part = part


class InvalidOrder(PlateError):
    """What was passed is no order of the house."""


class UnknownName(PlateError):
    """No household of the house has the name."""


class InvalidBox(PlateError):
    """The house has no such box."""


class InvalidLog(PlateError):
    """A tuple of a log is not as it must be."""

    def __init__(self, index):
        super().__init__(f"tuple {index} of the log cannot be such")
        self.index = index


class UnknownEntry(PlateError):
    """The log has no tuple with the index."""


class NoOrder(PlateError):
    """No order is left."""


class TooMany(PlateError):
    """Too many orders are possible."""


class InvalidNumber(PlateError):
    """A number is out of its range."""


class InvalidHint(PlateError):
    """A hint is not as it must be."""

    def __init__(self, index):
        super().__init__(f"hint {index} cannot be such")
        self.index = index


class InvalidRow(PlateError):
    """A row of boxes to try is not as it must be."""


class InvalidManners(PlateError):
    """Manners to choose from are not as they must be."""

    def __init__(self, index):
        super().__init__(f"manners {index} cannot be such")
        self.index = index


class InvalidEvent(PlateError):
    """An event is not as it must be."""

    def __init__(self, index):
        super().__init__(f"event {index} cannot be such")
        self.index = index


class InvalidLetters(PlateError):
    """A letter of those that are put one after another is not as it must be."""

    def __init__(self, index):
        super().__init__(f"letter {index} cannot be such")
        self.index = index


class InvalidBag(PlateError):
    """A name in a bag is not as it must be."""

    def __init__(self, index):
        super().__init__(f"name {index} of the bag cannot be such")
        self.index = index


class InvalidRows(PlateError):
    """A postman's row of letters is not as it must be."""

    def __init__(self, index):
        super().__init__(f"row {index} of the postmen cannot be such")
        self.index = index


class TakenBox(PlateError):
    """A household lives behind the box."""


class InvalidName(PlateError):
    """What was passed is no name to keep something under."""


class UnknownKept(PlateError):
    """Nothing is kept under the name."""


class InvalidOperation(PlateError):
    """An operation is not as it must be."""

    def __init__(self, index):
        super().__init__(f"operation {index} cannot be such")
        self.index = index


class Ended(PlateError):
    """What became of the letter was told before."""


class InvalidText(PlateError):
    """A word of a house's text is wrong, superfluous or missing."""

    def __init__(self, row, word):
        super().__init__(f"word {word} of row {row} cannot be such")
        self.row = row
        self.word = word


class DecodeError(PlateError):
    """An item of a house's code is wrong, superfluous or missing."""

    def __init__(self, offset):
        super().__init__(f"item {offset} cannot be such")
        self.offset = offset


class ScriptError(PlateError):
    """A row of a script is wrong or missing."""

    def __init__(self, row):
        super().__init__(f"row {row} of the script cannot be such")
        self.row = row


class ExecutionFailed(PlateError):
    """A row of a script failed when it was executed."""

    def __init__(self, row):
        super().__init__(f"row {row} of the script failed")
        self.row = row


class TooLong(PlateError):
    """A script takes too many steps."""
