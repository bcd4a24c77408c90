"""The errors that the package raises."""


class RopeError(ValueError):
    """The base of the errors, except of those that look up what is not there."""


class TooLarge(RopeError):
    """The tower has more people than the bound allows."""

    def __init__(self, bound):
        self.bound = bound


class BadLoad(RopeError):
    """The value is not a load, or not what a load is made of."""

    def __init__(self, value):
        self.value = value


class TooMuch(RopeError):
    """Two loads together have more weights than one load can hold."""


class Missing(RopeError):
    """A load does not have a weight as often as it is taken away."""

    def __init__(self, weight):
        self.weight = weight


class BadExcess(RopeError):
    """The value is not an excess."""

    def __init__(self, value):
        self.value = value


class BadTower(RopeError):
    """The value is not a tower; error is what tower_error says of it."""

    def __init__(self, error):
        self.error = error


class Busy(RopeError):
    """A watch of the hoist is running."""


class TooManyEdits(RopeError):
    """As many edits stand as a hoist keeps."""


class BadWeight(RopeError):
    """The value is not a weight."""

    def __init__(self, value):
        self.value = value


class TooManyPeople(RopeError):
    """The tower has as many people as it can have."""


class NothingToUndo(RopeError):
    """No edit of the hoist stands."""


class BadEdits(RopeError):
    """The edits are not a list or tuple, or too many."""


class BadEdit(RopeError):
    """The item at the index is not an edit."""

    def __init__(self, index):
        self.index = index


class Rejected(RopeError):
    """The edit at the index raised an error."""

    def __init__(self, index):
        self.index = index


class BadGroup(RopeError):
    """The value is not a group of the people."""

    def __init__(self, value):
        self.value = value


class BadNumber(RopeError):
    """The value is not a number within the limit."""

    def __init__(self, value):
        self.value = value


class TooLow(RopeError):
    """The number is less than what was promised."""

    def __init__(self, number):
        self.number = number


class BadText(RopeError):
    """The word at the index is wrong, or the value is not a text (None)."""

    def __init__(self, index):
        self.index = index


class NoPlace(LookupError):
    """The value is not the number of a place in the load."""

    def __init__(self, value):
        self.value = value


class NoPerson(LookupError):
    """The value is not the number of a person."""

    def __init__(self, value):
        self.value = value


class NoVersion(LookupError):
    """The value is not a version of the hoist."""

    def __init__(self, value):
        self.value = value
