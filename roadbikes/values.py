"""Values: parties of people, and races of parties along one road."""

from roadbikes.bounds import MAX_PEOPLE, MAX_START
from roadbikes.checks import is_number_from, is_starts
from roadbikes.errors import BadParty, BadRoad, BadStarts, BadTicks, NoPerson, TooLate, TooManyPeople
from roadbikes.roads import road_error
from roadbikes.rule import least_finish


class Party:
    """The starts of some people, who are the same party in any order."""

    def __init__(self, starts):
        if not is_starts(starts):
            raise BadStarts(starts)
        self.given = starts
        self.ordered = tuple(sorted(starts))

    @property
    def starts(self):
        """The starts in the order of the people."""
        return self.given

    def __getitem__(self, at):
        if not is_number_from(at, 0, len(self.given) - 1):
            raise NoPerson(at)
        return self.given[at]

    def __iter__(self):
        raise TypeError("a party is not iterated over")

    def __add__(self, other):
        if not isinstance(other, Party):
            return NotImplemented
        starts = self.given + other.given
        if len(starts) > MAX_PEOPLE:
            raise TooManyPeople()
        return Party(starts)

    def __rshift__(self, other):
        if not is_number_from(other, 0, MAX_START):
            raise BadTicks(other)
        later = [start + other for start in self.given]
        for start in later:
            if start > MAX_START:
                raise TooLate(start)
        return Party(tuple(later))

    def __contains__(self, x):
        # True and False are no starts, although they are equal to 1 and 0.
        return is_number_from(x, 0, MAX_START) and x in self.given

    def __len__(self):
        return len(self.given)

    def __str__(self):
        return "".join([f"{start:>8,}" for start in self.given])

    def __eq__(self, other):
        return isinstance(other, Party) and self.ordered == other.ordered


class Race:
    """A road along which parties go; a call tells how soon a party can be at its end."""

    def __init__(self, road):
        error = road_error(road)
        if error is not None:
            raise BadRoad(error)
        self.course = road
        self.least = None

    @property
    def best(self):
        """The least finish that a call has returned, or None."""
        return self.least

    def __call__(self, value):
        if not isinstance(value, Party):
            raise BadParty(value)
        finish = least_finish(self.course, value.starts)
        if self.least is None or finish < self.least:
            self.least = finish
        return finish
