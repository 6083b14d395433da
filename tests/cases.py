"""What the tests of errors and of trips have in common."""

import unittest

from roadbikes.bounds import LIMIT
from roadbikes.trips import PromisedTrip

ENDS = (0, 8, 19, 20, 24, 31, LIMIT)


def picture(trip):
    """All that a trip tells, as one text."""
    versions = range(len(trip) + 1)
    return repr([
        trip.road, trip.starts, trip.finish, trip.edits(), len(trip), str(trip), now(trip),
        [trip.state(version=version) for version in versions],
        [list(trip.walk(version=version)) for version in versions],
        [trip.certificate(end, version=version) for version in versions for end in ENDS],
        (trip.latest, trip.left(0)) if isinstance(trip, PromisedTrip) else None,
    ])


def now(trip):
    """The attributes and the queries without a version, apart from edits, len and str."""
    certificates = [trip.certificate(end) for end in ENDS]
    return [trip.road, trip.starts, trip.finish, trip.state(), list(trip.walk()), certificates]


class Case(unittest.TestCase):
    def raises(self, error, action, *values, **named):
        """Check that a call raises an error of this kind with these very fields, each time."""
        before = repr((values, named))
        for _ in range(2):
            with self.assertRaises(type(error), msg=before[:200]) as caught:
                action(*values, **named)
            self.assertIs(type(caught.exception), type(error))
            self.assertEqual(repr(vars(caught.exception)), repr(vars(error)))
            for field, value in vars(error).items():
                if isinstance(value, (list, dict)):
                    self.assertIs(getattr(caught.exception, field), value)
        self.assertEqual(repr((values, named)), before)

    def refuses(self, error, trip, action, *values, **named):
        """Check that a call raises this error and leaves the trip as it was."""
        before = picture(trip)
        self.raises(error, action, *values, **named)
        self.assertEqual(picture(trip), before)
