"""The errors of the package, each with what it tells as its attributes."""


class RowError(ValueError):
    """A value that a parameter does not take."""


class InvalidFrame(RowError):
    """The value is no Frame."""

    def __init__(self, value):
        self.value = value


class InvalidLot(RowError):
    """The value is no lot."""

    def __init__(self, value):
        self.value = value


class InvalidMany(RowError):
    """The value is no COUNT within the bounds."""

    def __init__(self, value):
        self.value = value


class InvalidNumber(RowError):
    """The value is no NUMBER, or none that is taken here."""

    def __init__(self, value):
        self.value = value


class InvalidNumbers(RowError):
    """The value is no list of as many NUMBERS as there are pairs."""

    def __init__(self, value):
        self.value = value


class InvalidPairs(RowError):
    """The value is no Pairs."""

    def __init__(self, value):
        self.value = value


class InvalidParting(RowError):
    """The value is no parting."""

    def __init__(self, value):
        self.value = value


class InvalidPlace(RowError):
    """The value is no position."""

    def __init__(self, value):
        self.value = value


class InvalidRoom(RowError):
    """The value is no room of the size."""

    def __init__(self, value):
        self.value = value


class InvalidRow(RowError):
    """The value is no row of the size."""

    def __init__(self, value):
        self.value = value


class InvalidRows(RowError):
    """The value is no list of rows of the size, or of too many."""

    def __init__(self, value):
        self.value = value


class InvalidSize(RowError):
    """The value is no COUNT within the bounds of a size."""

    def __init__(self, value):
        self.value = value


class InvalidWeb(RowError):
    """The value is no Web."""

    def __init__(self, value):
        self.value = value


class DividedByZero(RowError):
    """A number is divided by nought."""


class InvalidBars(RowError):
    """The value is no list of bars."""

    def __init__(self, value):
        self.value = value


class InvalidClaim(RowError):
    """The value is no claim."""

    def __init__(self, value):
        self.value = value


class InvalidCommand(RowError):
    """The value is no command."""

    def __init__(self, value):
        self.value = value


class InvalidLines(RowError):
    """The lines are no list, or one of them is no deed."""

    def __init__(self, position):
        self.position = position


class InvalidPair(RowError):
    """The value is no pair."""

    def __init__(self, value):
        self.value = value


class InvalidPaper(RowError):
    """The value is no paper."""

    def __init__(self, value):
        self.value = value


class InvalidPins(RowError):
    """The value is no pins of the frame."""

    def __init__(self, value):
        self.value = value


class InvalidPlaces(RowError):
    """The value is no list of places as they are wanted."""

    def __init__(self, value):
        self.value = value


class InvalidPoints(RowError):
    """The value is no list of points."""

    def __init__(self, value):
        self.value = value


class InvalidSort(RowError):
    """The value is no word of a sort."""

    def __init__(self, value):
        self.value = value


class InvalidTable(RowError):
    """The value is no turned table."""

    def __init__(self, value):
        self.value = value


class InvalidText(RowError):
    """The text is no written form."""

    def __init__(self, line):
        self.line = line


class InvalidThrees(RowError):
    """The value is no threes of the size."""

    def __init__(self, value):
        self.value = value


class InvalidTies(RowError):
    """The value is no list of ties."""

    def __init__(self, value):
        self.value = value


class InvalidValue(RowError):
    """The value is none of the sort."""

    def __init__(self, value):
        self.value = value


class MissingError(LookupError):
    """Something is asked for that is not there."""


class UnknownLabel(MissingError):
    """Nothing is noted under the label."""

    def __init__(self, value):
        self.value = value


class UnknownName(MissingError):
    """Nothing of the wanted kind is kept under the name."""

    def __init__(self, value):
        self.value = value


class StateError(RuntimeError):
    """Something does not go as things are."""


class CommandFailed(StateError):
    """One of several commands failed."""

    def __init__(self, position):
        self.position = position


class LabelTaken(StateError):
    """A claim is noted under the label already."""

    def __init__(self, label):
        self.label = label


class NameTaken(StateError):
    """Something is kept under the name already."""

    def __init__(self, name):
        self.name = name


class NotFree(StateError):
    """A lot is not free."""


class NothingToRedo(StateError):
    """No deed is there to be done again."""


class NothingToUndo(StateError):
    """No deed is there to be taken back."""


class NoughtRow(StateError):
    """The row is all noughts."""


class LimitError(ArithmeticError):
    """There is more than the program takes."""


class TooMany(LimitError):
    """There are more of these than the limit."""

    def __init__(self, what, limit):
        self.what = what
        self.limit = limit
