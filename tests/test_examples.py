"""The examples of DOC.md as it writes them: sessions whose last line is a repr or an error."""

import unittest

EXAMPLES = """
>>> from roadbikes.roads import is_road, road_error
>>> A = (10, 4, (1, 0, 0))
>>> [is_road(A), road_error((4, 4, (1,))), road_error((10, 4, ())), road_error((10, 4, (1, 13)))]
[True, (None, 'ticks'), (None, 'bikes'), (1, 'bikes')]

>>> from roadbikes.roads import counts_of, room_of
>>> C = (10, 4, (1, 0, 2))
>>> [counts_of(C), room_of(C, 1), room_of(C, 2), room_of(C, 9)]
[(1, 1, 3), 3, 4, 5]

>>> from roadbikes.roads import joined
>>> A = (10, 4, (1, 0, 0))
>>> B = (10, 4, (1, 0))
>>> [joined(A), joined(B, A)]
[(10, 4, (1, 0, 0)), (10, 4, (1, 0, 1, 0, 0))]

>>> from roadbikes.plans import is_plan
>>> A = (10, 4, (1, 0, 0))
>>> [is_plan(A, 2, ((0,), (1,), (0,))), is_plan(A, 2, ((), (1,), ())), is_plan(A, 2, ((0,), (2,), ()))]
[True, False, False]

>>> from roadbikes.plans import ticks_of
>>> A = (10, 4, (1, 0, 0))
>>> B = (10, 4, (1, 0))
>>> [ticks_of(A, (0, 0), ((0,), (1,), (0,))), ticks_of(B, (0, 9), ((1,), (0,)))]
[((0, 0), (4, 10), (14, 14), (18, 24)), ((0, 9), (10, 13), (17, 23))]

>>> from roadbikes.plans import finish_of, waits_of
>>> B = (10, 4, (1, 0))
>>> [finish_of(B, (0, 9), ((1,), (0,))), waits_of(B, (0, 9), ((1,), (0,))), finish_of(B, (0, 9), ((1,), (1,)))]
[23, (3, 0), 20]

>>> from roadbikes.rule import least_finish, rule_plan
>>> A = (10, 4, (1, 0, 0))
>>> B = (10, 4, (1, 0))
>>> [rule_plan(A, (0, 0)), least_finish(A, (0, 0)), rule_plan(B, (0, 9)), least_finish(B, (0, 9))]
[((0,), (1,), (0,)), 24, ((1,), (1,)), 20]

>>> from roadbikes.rule import needs_of
>>> A = (10, 4, (1, 0, 0))
>>> B = (10, 4, (1, 0))
>>> [needs_of(A, (0, 0), 23), needs_of(A, (0, 0), 24), needs_of(B, (0, 9), 19), needs_of(B, (0, 9), 0)]
[(2, 2), (1, 1), (1, 2), (4, 5)]

>>> from roadbikes.rule import find_certificate
>>> A = (10, 4, (1, 0, 0))
>>> B = (10, 4, (1, 0))
>>> [find_certificate(A, (0, 0), 23), find_certificate(B, (0, 9), 19), find_certificate(B, (0, 9), 20)[0]]
[('people', (0, 1)), ('people', (0, 1)), 'plan']

>>> from roadbikes.rule import certificate_holds
>>> A = (10, 4, (1, 0, 0))
>>> [certificate_holds(A, (0, 0), 24, ('plan', ((0,), (1,), ()))), certificate_holds(A, (0, 0), 23, ('people', (0,))), certificate_holds(A, (0, 0), 23, ('people', (0, 1)))]
[True, False, True]

>>> from roadbikes.more import fewest_bikes
>>> A = (10, 4, (1, 0, 0))
>>> [fewest_bikes(A, (0, 0), 23, 0), fewest_bikes(A, (0, 0), 23, 2), fewest_bikes(A, (0, 0), 24, 1), fewest_bikes(A, (0, 0), 11, 0)]
[1, 1, 0, None]

>>> from roadbikes.more import latest_start
>>> A = (10, 4, (1, 0, 0))
>>> [latest_start(A, (0, 0), 30), latest_start(A, (0, 0), 24), latest_start(A, (0, 0), 23)]
[18, 0, None]

>>> from roadbikes.more import can_walk
>>> A = (10, 4, (1, 0, 0))
>>> B = (10, 4, (1, 0))
>>> [can_walk(A, (0, 0), 24, 0), can_walk(B, (0, 9), 20, 0), can_walk(B, (0, 9), 20, 1)]
[False, True, False]

>>> from roadbikes.counting import count_good, count_plans
>>> A = (10, 4, (1, 0, 0))
>>> [count_plans(A, 2), count_good(A, (0, 0), 24), count_good(A, (0, 0), 23)]
[15, 8, 0]

>>> from roadbikes.counting import each_plan
>>> B = (10, 4, (1, 0))
>>> list(each_plan(B, 1))
[((), ()), ((0,), ()), ((0,), (0,))]

>>> from roadbikes.values import Party
>>> party = Party((0, 9))
>>> [party.starts, len(party)]
[(0, 9), 2]

>>> from roadbikes.values import Party
>>> party = Party((0, 9))
>>> [party[1], (party + Party((4,))).starts, (party >> 3).starts, 9 in party, 8 in party]
[9, (0, 9, 4), (3, 12), True, False]

>>> from roadbikes.values import Party
>>> party = Party((12000, 9))
>>> [str(party), party == Party((9, 12000)), party == (12000, 9)]
['  12,000       9', True, False]

>>> from roadbikes.values import Party, Race
>>> B = (10, 4, (1, 0))
>>> race = Race(B)
>>> [race.best, race(Party((0, 9))), race(Party((0, 0, 9))), race(Party((5,))), race.best]
[None, 20, 20, 13, 13]

>>> from roadbikes.trips import Trip
>>> B = (10, 4, (1, 0))
>>> trip = Trip(B, (0, 9))
>>> [trip.road == B, trip.starts, trip.finish, len(trip)]
[True, (0, 9), 20, 0]

>>> from roadbikes.trips import Trip
>>> [Trip.MOST_EDITS, Trip((3, 1, (0,)), (5,)).finish]
[60, 8]

>>> from roadbikes.trips import Trip
>>> B = (10, 4, (1, 0))
>>> trip = Trip(B, (0, 9))
>>> [trip.come(0), trip.finish, trip.place(0, 1), trip.finish, trip.leave(1), trip.finish]
[1, 20, 2, 17, 3, 8]

>>> from roadbikes.trips import Trip
>>> B = (10, 4, (1, 0))
>>> trip = Trip(B, (0, 9))
>>> [trip.take(0, 1), trip.finish, trip.undo(), trip.finish]
[1, 29, 0, 20]

>>> from roadbikes.trips import Trip
>>> B = (10, 4, (1, 0))
>>> trip = Trip(B, (0, 9))
>>> trip.attempt([('come', 4), ('take', 1, 1)])
raises Rejected(1)

>>> from roadbikes.trips import Trip
>>> trip = Trip((3, 1, (0,)), (5,))
>>> [trip.place(0, 2), trip.state(), trip.state(version=0)]
[1, ((3, 1, (2,)), (5,)), ((3, 1, (0,)), (5,))]

>>> from roadbikes.trips import Trip
>>> B = (10, 4, (1, 0))
>>> Trip(B, (0, 9)).certificate(19)
('people', (0, 1))

>>> from roadbikes.trips import Trip
>>> B = (10, 4, (1, 0))
>>> list(Trip(B, (0, 9)).walk())
[(0, (1,), (10, 13)), (1, (1,), (20, 17))]

>>> from roadbikes.trips import Trip
>>> trip = Trip((3, 1, (0,)), (5,))
>>> [trip.place(0, 2), trip.edits()]
[1, (('place', 0, 2),)]

>>> from roadbikes.trips import Trip
>>> trip = Trip.read('10/4 1,0 from 0,9')
>>> [trip.road, trip.starts]
[(10, 4, (1, 0)), (0, 9)]

>>> from roadbikes.trips import Trip
>>> B = (10, 4, (1, 0))
>>> [str(Trip(B, (0, 9))), Trip(B, (0, 9)) == Trip(B, (9, 0))]
['2 stages, 1 bicycles, 2 people, finish 20, 0 edits', True]

>>> from roadbikes.promises import Promise
>>> promise = Promise(25)
>>> [promise.latest, promise.left(20)]
[25, 5]

>>> from roadbikes.trips import PromisedTrip
>>> B = (10, 4, (1, 0))
>>> trip = PromisedTrip(B, (0, 9), 20)
>>> [trip.left(trip.finish), trip.come(0), trip.come(1)]
raises TooLate(21)

>>> from roadbikes.texts import trip_text
>>> B = (10, 4, (1, 0))
>>> trip_text(B, (0, 9))
'10/4 1,0 from 0,9'

>>> from roadbikes.texts import parse_trip
>>> parse_trip('10/4 1,13 from 0,9')
raises BadText(1)

>>> from roadbikes.trips import Trip
>>> from roadbikes.shells import Shell
>>> Shell(Trip((3, 1, (0,)), (5,))).execute('trip')
'3/1 0 from 5'

>>> from roadbikes.trips import Trip
>>> from roadbikes.shells import Shell
>>> B = (10, 4, (1, 0))
>>> shell = Shell(Trip(B, (0, 9)))
>>> [shell.execute('finish'), shell.execute('riders'), shell.execute('by 19'), shell.execute('by 20'), shell.execute('take 1 1'), shell.execute('come 4'), shell.execute('leave')]
['20', '1 1', 'people', 'plan', 'error TooFew', 'ok 1', 'unknown command']
"""


def told(lines):
    """Run a session; return the repr of its last expression, or the error that it raises."""
    names = {}
    for line in lines[:-1]:
        exec(line, names)
    try:
        return repr(eval(lines[-1], names))
    except (ValueError, LookupError) as error:
        fields = ", ".join(map(repr, vars(error).values()))
        return f"raises {type(error).__name__}({fields})"


class Examples(unittest.TestCase):
    def test_each_session(self):
        sessions = EXAMPLES.strip().split("\n\n")
        self.assertEqual(len(sessions), 36)
        for session in sessions:
            *lines, expected = session.split("\n")
            with self.subTest(session):
                self.assertEqual(told([line.removeprefix(">>> ") for line in lines]), expected)


if __name__ == "__main__":
    unittest.main()
