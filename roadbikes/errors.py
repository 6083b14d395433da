"""The errors of the package, each with the fields that it is made from."""


class TripError(ValueError):
    """The base of all errors below that are not lookups."""


class OtherTicks(TripError):
    """The road at this index among the others has another walk or ride."""

    def __init__(self, index):
        self.index = index


class TooLong(TripError):
    """A road would have more stages than this bound."""

    def __init__(self, bound):
        self.bound = bound


class TooLarge(TripError):
    """There are more plans than this bound."""

    def __init__(self, bound):
        self.bound = bound


class BadStarts(TripError):
    """This value is not starts."""

    def __init__(self, value):
        self.value = value


class TooManyPeople(TripError):
    """There would be more than MAX_PEOPLE people."""


class BadTicks(TripError):
    """This value is not a number of ticks to begin later."""

    def __init__(self, value):
        self.value = value


class TooLate(TripError):
    """This tick is later than allowed."""

    def __init__(self, tick):
        self.tick = tick


class BadRoad(TripError):
    """A value is not a road, and error is what road_error says of it."""

    def __init__(self, error):
        self.error = error


class BadParty(TripError):
    """This value is not a party."""

    def __init__(self, value):
        self.value = value


class Busy(TripError):
    """A watch of the trip runs."""


class TooManyEdits(TripError):
    """MAX_EDITS edits of the trip stand already."""


class BadStart(TripError):
    """This value is not a tick at which somebody may begin."""

    def __init__(self, value):
        self.value = value


class LastPerson(TripError):
    """The only person of a trip cannot leave."""


class BadCount(TripError):
    """This value is not a number of bicycles to place or take."""

    def __init__(self, value):
        self.value = value


class TooMuch(TripError):
    """There would be this total of bicycles at one station."""

    def __init__(self, total):
        self.total = total


class TooFew(TripError):
    """Only the present bicycles can be taken."""

    def __init__(self, present):
        self.present = present


class NothingToUndo(TripError):
    """No edit of the trip stands."""


class BadEdits(TripError):
    """A value is not a batch of edits."""


class BadEdit(TripError):
    """The item at this index is not an edit."""

    def __init__(self, index):
        self.index = index


class Rejected(TripError):
    """The edit at this index raised an error."""

    def __init__(self, index):
        self.index = index


class BadEnd(TripError):
    """This value is not a tick from 0 to LIMIT."""

    def __init__(self, value):
        self.value = value


class BadText(TripError):
    """The word at this index is wrong, or, for None, the value is not a text."""

    def __init__(self, index):
        self.index = index


class NoPerson(LookupError):
    """This value is not one of the people."""

    def __init__(self, value):
        self.value = value


class NoStation(LookupError):
    """This value is not a station at which a stage begins."""

    def __init__(self, value):
        self.value = value


class NoVersion(LookupError):
    """This value is not a version of the trip."""

    def __init__(self, value):
        self.value = value
