import random
import unittest
from itertools import permutations

from cases import ENDS, Case, now, picture
from samples import A, B, C, other_values, replaced

from roadbikes.bounds import LIMIT, MAX_BIKES, MAX_EDITS, MAX_PEOPLE, MAX_START
from roadbikes.errors import (
    BadCount, BadEnd, BadRoad, BadStart, BadStarts, BadText, LastPerson, NoPerson, NoStation, NothingToUndo, NoVersion,
    TooFew, TooManyEdits, TooManyPeople, TooMuch)
from roadbikes.plans import ticks_of
from roadbikes.roads import road_error
from roadbikes.rule import find_certificate, least_finish, rule_plan
from roadbikes.trips import PromisedTrip, Trip
from roadbikes.values import Party

SMALL = (3, 1, (0,))


def is_number(value, least, most):
    return type(value) is int and least <= value <= most


def odd_values():
    return [*other_values(), (0,), [0], "0", Trip(B, (0, 9)), Party((0,)), B, ("come", 0)]


def full_trip():
    """A trip in which as many edits stand as may."""
    trip = Trip(B, (0, 9))
    while len(trip) < MAX_EDITS:
        trip.come(len(trip))
        trip.place(0, 1)
        trip.leave(0)
        trip.take(0, 1)
    return trip


class Making(Case):
    def test_attributes(self):
        for road in [A, B, C, SMALL, (1000, 999, (12,) * 12), (2, 1, (0,) * 12)]:
            for starts in [(0,), (9, 0), (MAX_START,) * 10, tuple(range(10))]:
                trip = Trip(road, starts)
                self.assertEqual(repr((trip.road, trip.starts)), repr((road, starts)))
                self.assertEqual(trip.finish, least_finish(road, starts))
                self.assertEqual([len(trip), trip.edits()], [0, ()])

    def test_attributes_are_only_read(self):
        trip = Trip(B, (0, 9))
        before = picture(trip)
        for name in ["road", "starts", "finish"]:
            with self.assertRaises(AttributeError):
                setattr(trip, name, getattr(trip, name))
        self.assertEqual(picture(trip), before)

    def test_most_edits(self):
        self.assertEqual([Trip.MOST_EDITS, Trip(B, (0,)).MOST_EDITS, PromisedTrip.MOST_EDITS], [MAX_EDITS] * 3)

    def test_bad_roads(self):
        wrong = [value for value in odd_values() if road_error(value) is not None]
        wrong += [[10, 4, (1, 0)], (10, 4, [1, 0]), (4, 4, (1,)), (10, 4, ()), (10, 4, (1, 13)), (10, True, (1,))]
        wrong += [(10, 4, (1, True)), (10, 4, (False,)), (10, 4, (0,) * 13)]
        for value in wrong:
            self.raises(BadRoad(road_error(value)), Trip, value, (0, 9))
            self.raises(BadRoad(road_error(value)), Trip, value, None)
        for value, error in [(None, (None, "road")), ((4, 4, ()), (None, "ticks")), ((4, 3, (0, 0, 13)), (2, "bikes"))]:
            self.raises(BadRoad(error), Trip, value, [0])

    def test_bad_starts(self):
        wrong = [value for value in odd_values() if value not in ((0,), (10, 4))]
        wrong += [(), [0, 9], (0,) * 11, (True,), (False, 1), (0, -1), (0, MAX_START + 1), (0, None), ((0,),)]
        for value in wrong:
            self.raises(BadStarts(value), Trip, B, value)


class Edits(Case):
    def test_come(self):
        trip = Trip(B, (0, 9))
        for version, start in enumerate([0, MAX_START, 9, 5], 1):
            before = trip.starts
            self.assertEqual(trip.come(start), version)
            self.assertEqual([trip.starts, trip.road], [before + (start,), B])

    def test_leave(self):
        for person in range(4):
            trip = Trip(B, (3, 0, 9, 5))
            self.assertEqual(trip.leave(person), 1)
            self.assertEqual([trip.starts, trip.road], [(3, 0, 9, 5)[:person] + (3, 0, 9, 5)[person + 1:], B])
        trip = Trip(B, tuple(range(10)))
        self.assertEqual([trip.leave(0) for _ in range(9)], list(range(1, 10)))
        self.assertEqual(trip.starts, (9,))

    def test_place_and_take(self):
        for station in range(3):
            for count in range(1, 13):
                trip = Trip((10, 4, (0, 0, 0)), (0, 9))
                self.assertEqual(trip.place(station, count), 1)
                self.assertEqual(trip.road, (10, 4, replaced((0, 0, 0), station, count)))
                self.assertEqual(trip.starts, (0, 9))
                for fewer in range(1, count + 1):
                    self.assertEqual(trip.take(station, fewer), 2)
                    self.assertEqual(trip.road, (10, 4, replaced((0, 0, 0), station, count - fewer)))
                    trip.undo()

    def test_edits_that_stand(self):
        trip = Trip(B, (0, 9))
        edits = [("come", 4), ("place", 1, 2), ("leave", 0), ("take", 1, 1), ("come", 4)]
        for many, (name, *values) in enumerate(edits, 1):
            self.assertEqual(getattr(trip, name)(*values), many)
            self.assertEqual(repr(trip.edits()), repr(tuple(edits[:many])))
            self.assertEqual(len(trip), many)
        for many in reversed(range(5)):
            self.assertEqual(trip.undo(), many)
            self.assertEqual(repr(trip.edits()), repr(tuple(edits[:many])))

    def test_trips_are_apart(self):
        one, other = Trip(B, (0, 9)), Trip(B, (0, 9))
        before = picture(other)
        one.come(3)
        one.place(0, 1)
        self.assertEqual(picture(other), before)


class ErrorsOfEdits(Case):
    def test_come(self):
        trip = Trip(B, (0, 9))
        trip.come(1)
        wrong = [value for value in odd_values() if not is_number(value, 0, MAX_START)]
        for value in [*wrong, True, False, -1, MAX_START + 1]:
            self.refuses(BadStart(value), trip, trip.come, value)

    def test_come_among_most_people(self):
        trip = Trip(B, (0,) * (MAX_PEOPLE - 1))
        self.assertEqual(trip.come(MAX_START), 1)
        for start in (0, 9, MAX_START):
            self.refuses(TooManyPeople(), trip, trip.come, start)
        for value in [-1, MAX_START + 1, True, None, [0]]:
            self.refuses(BadStart(value), trip, trip.come, value)
        self.assertEqual([trip.leave(3), trip.come(7)], [2, 3])

    def test_leave(self):
        trip = Trip(B, (0, 9))
        trip.place(1, 3)
        for value in [*odd_values(), True, False, -1, -2, 2, 10 ** 39]:
            self.refuses(NoPerson(value), trip, trip.leave, value)

    def test_leave_of_the_last_person(self):
        trip = Trip(B, (0, 9))
        trip.leave(0)
        self.refuses(LastPerson(), trip, trip.leave, 0)
        for value in [*odd_values(), 1, -1, True, False]:
            self.refuses(NoPerson(value), trip, trip.leave, value)

    def test_no_station(self):
        trip = Trip(B, (0, 9))
        trip.place(1, 12)
        for action in (trip.place, trip.take):
            for value in [*odd_values(), True, False, -1, 2, 3]:
                for count in (1, 12, 13, None, True):
                    self.raises(NoStation(value), action, value, count)
                self.refuses(NoStation(value), trip, action, value, 1)

    def test_bad_count(self):
        trip = Trip(B, (0, 9))
        trip.place(1, 12)
        wrong = [value for value in odd_values() if not is_number(value, 1, MAX_BIKES)]
        for action in (trip.place, trip.take):
            for value in [*wrong, True, False, 0, -1, MAX_BIKES + 1]:
                for station in (0, 1):
                    self.raises(BadCount(value), action, station, value)
                self.refuses(BadCount(value), trip, action, 0, value)

    def test_too_much(self):
        for present in range(MAX_BIKES + 1):
            trip = Trip((10, 4, (0, present)), (0, 9))
            for count in range(1, MAX_BIKES + 1):
                if present + count > MAX_BIKES:
                    self.refuses(TooMuch(present + count), trip, trip.place, 1, count)
                else:
                    self.assertEqual([trip.place(1, count), trip.road[2], trip.undo()], [1, (0, present + count), 0])

    def test_too_few(self):
        for present in range(MAX_BIKES + 1):
            trip = Trip((10, 4, (0, present)), (0, 9))
            for count in range(1, MAX_BIKES + 1):
                if present < count:
                    self.refuses(TooFew(present), trip, trip.take, 1, count)
                else:
                    self.assertEqual([trip.take(1, count), trip.road[2], trip.undo()], [1, (0, present - count), 0])

    def test_most_edits(self):
        trip = full_trip()
        self.assertEqual([len(trip), len(trip.edits())], [60, 60])
        for action, values in [
            (trip.come, (0,)), (trip.leave, (0,)), (trip.place, (0, 1)), (trip.take, (0, 1)),
            (trip.come, (None,)), (trip.leave, ([9],)), (trip.place, (9, True)), (trip.take, ("0", 99)), (trip.take, (1, 1)),
        ]:
            self.raises(TooManyEdits(), action, *values)
        self.refuses(TooManyEdits(), trip, trip.come, 0)
        for name, *values in [("come", 0), ("leave", 0), ("place", 0, 1), ("take", 0, 1)]:
            self.assertEqual([trip.undo(), getattr(trip, name)(*values)], [59, 60])
            self.raises(TooManyEdits(), getattr(trip, name), *values)

    def test_number_of_edits_before_other_errors(self):
        trip = Trip(SMALL, (5,))
        for version in range(1, 61):
            self.assertEqual(trip.place(0, 1) if version % 2 else trip.take(0, 1), version)
        for value in other_values():
            self.raises(TooManyEdits(), trip.come, value)
            self.raises(TooManyEdits(), trip.leave, value)
            self.raises(TooManyEdits(), trip.place, value, value)
            self.raises(TooManyEdits(), trip.take, value, value)
        self.raises(TooManyEdits(), trip.leave, 0)


class Undo(Case):
    def test_down_to_the_beginning(self):
        trip = full_trip()
        states = [trip.state(version=version) for version in range(61)]
        for version in reversed(range(60)):
            self.assertEqual(trip.undo(), version)
            self.assertEqual([trip.state(), len(trip), len(trip.edits())], [states[version], version, version])
            self.assertEqual(trip.finish, least_finish(*states[version]))
        self.assertEqual(picture(trip), picture(Trip(B, (0, 9))))
        self.refuses(NothingToUndo(), trip, trip.undo)
        self.assertEqual([trip.come(1), trip.undo()], [1, 0])

    def test_nothing_to_undo(self):
        trip = Trip(B, (0, 9))
        self.refuses(NothingToUndo(), trip, trip.undo)

    def test_a_removed_edit_is_forgotten(self):
        trip = Trip(B, (0, 9))
        trip.come(4)
        trip.come(5)
        trip.undo()
        self.raises(NoVersion(2), trip.state, version=2)
        trip.leave(0)
        self.assertEqual(trip.edits(), (("come", 4), ("leave", 0)))
        self.assertEqual(trip.state(version=2), (B, (9, 4)))


class Queries(Case):
    def test_versions(self):
        trip = Trip(B, (0, 9))
        expected = [(B, (0, 9))]
        for name, *values in [("come", 4), ("place", 1, 2), ("leave", 0), ("take", 0, 1), ("come", 0)]:
            getattr(trip, name)(*values)
            expected.append((trip.road, trip.starts))
        self.assertEqual(expected[-1], ((10, 4, (0, 2)), (9, 4, 0)))
        for version, (road, starts) in enumerate(expected):
            self.assertEqual(repr(trip.state(version=version)), repr((road, starts)))
            for end in range(50):
                self.assertEqual(trip.certificate(end, version=version), find_certificate(road, starts, end))
            self.check_walk(trip.walk(version=version), road, starts)
        for version in [{}, {"version": None}, {"version": 5}]:
            self.assertEqual(trip.state(**version), expected[5])
            self.assertEqual(trip.certificate(20, **version), find_certificate(*expected[5], 20))
            self.check_walk(trip.walk(**version), *expected[5])

    def check_walk(self, walk, road, starts):
        plan = rule_plan(road, starts)
        ticks = ticks_of(road, starts, plan)
        self.assertEqual(list(walk), [(stage, plan[stage], ticks[stage + 1]) for stage in range(len(plan))])

    def test_no_version(self):
        trip = Trip(B, (0, 9))
        trip.come(4)
        for value in odd_values():
            if value is not None:
                self.no_version(trip, value)
        for value in [True, False, -1, 2, 60, 10 ** 39]:
            self.no_version(trip, value)

    def no_version(self, trip, value):
        self.refuses(NoVersion(value), trip, trip.state, version=value)
        self.refuses(NoVersion(value), trip, lambda version: list(trip.walk(version=version)), version=value)
        for end in (20, -1, None, True):
            self.raises(NoVersion(value), trip.certificate, end, version=value)

    def test_bad_end(self):
        trip = Trip(B, (0, 9))
        trip.come(4)
        wrong = [value for value in odd_values() if not is_number(value, 0, LIMIT)]
        for value in [*wrong, True, False, -1, LIMIT + 1]:
            self.refuses(BadEnd(value), trip, trip.certificate, value)
            for version in (None, 0, 1):
                self.raises(BadEnd(value), trip.certificate, value, version=version)

    def test_ends(self):
        trip = Trip(A, (0, 0))
        self.assertEqual(trip.certificate(0)[0], "people")
        self.assertEqual(trip.certificate(23), ("people", (0, 1)))
        self.assertEqual(trip.certificate(24)[0], "plan")
        self.assertEqual(trip.certificate(LIMIT)[0], "plan")

    def test_arguments_by_keyword(self):
        trip = Trip(B, (0, 9))
        for call in [lambda: trip.state(0), lambda: trip.certificate(20, 0), lambda: trip.walk(0), lambda: trip.attempt([], None)]:
            self.assertRaises(TypeError, call)

    def test_walk_yields_one_after_another(self):
        trip = Trip(A, (0, 0))
        walk = trip.walk()
        self.assertIs(iter(walk), walk)
        self.assertEqual([next(walk), next(walk)], [(0, (0,), (4, 10)), (1, (1,), (14, 14))])
        other = trip.walk()
        self.assertEqual([next(other), next(walk), next(other)], [
            (0, (0,), (4, 10)), (2, (0,), (18, 24)), (1, (1,), (14, 14))])
        self.assertRaises(StopIteration, next, walk)
        self.assertEqual([trip.state(), len(trip)], [(A, (0, 0)), 0])

    def test_read(self):
        for text, road, starts in [
            ("10/4 1,0 from 0,9", B, (0, 9)), ("2/1 0 from 0", (2, 1, (0,)), (0,)),
            ("1000/999 12 from 1000000", (1000, 999, (12,)), (MAX_START,)),
        ]:
            trip = Trip.read(text)
            self.assertIs(type(trip), Trip)
            self.assertEqual(picture(trip), picture(Trip(road, starts)))
        self.assertEqual(Trip.read("10/4 1,0 from 0,9").come(1), 1)

    def test_bad_text(self):
        for value in odd_values():
            self.raises(BadText(0 if isinstance(value, str) else None), Trip.read, value)
        for text, index in [
            ("4/4 1,0 from 0,9", 0), ("10/4 1,13 from 0,9", 1), ("10/4 1,0 to 0,9", 2), ("10/4 1,0 from 0,-9", 3),
            ("10/4 1,0 from 0,9 0", 4), ("10/4 1,0 from", 3), ("10/4  1,0 from 0,9", 1),
        ]:
            self.raises(BadText(index), Trip.read, text)


class Texts(Case):
    def test_str(self):
        trip = Trip((3, 1, (0,)), (5,))
        self.assertEqual(str(trip), "1 stages, 0 bicycles, 1 people, finish 8, 0 edits")
        trip.place(0, 12)
        self.assertEqual(str(trip), "1 stages, 12 bicycles, 1 people, finish 6, 1 edits")
        trip = Trip((1000, 999, (12,) * 12), (MAX_START,) * 10)
        self.assertEqual(str(trip), "12 stages, 144 bicycles, 10 people, finish 1011988, 0 edits")
        trip.leave(0)
        trip.take(3, 2)
        self.assertEqual(str(trip), "12 stages, 142 bicycles, 9 people, finish 1011988, 2 edits")

    def test_equal(self):
        for starts in permutations((0, 9, 4)):
            self.assertIs(Trip(B, starts) == Trip(B, (9, 4, 0)), True)
            self.assertIs(Trip(B, starts) != Trip(B, (9, 4, 0)), False)
        trip = Trip(B, (0, 9))
        self.assertIs(trip == trip, True)

    def test_edits_do_not_matter(self):
        one, other = Trip(B, (0, 9)), Trip((10, 4, (0, 0)), (9,))
        self.assertIs(one == other, False)
        other.come(0)
        self.assertIs(one == other, False)
        other.place(0, 1)
        self.assertIs(one == other, True)
        one.come(3)
        self.assertIs(other == one, False)
        one.undo()
        self.assertIs(other == one, True)

    def test_not_equal(self):
        trip = Trip(B, (0, 9))
        others = [
            Trip(A, (0, 9)), Trip((10, 5, (1, 0)), (0, 9)), Trip((11, 4, (1, 0)), (0, 9)), Trip((10, 4, (0, 1)), (0, 9)),
            Trip(B, (0, 8)), Trip(B, (0,)), Trip(B, (0, 9, 9)), Trip(B, (0, 0, 9)),
        ]
        for other in [*others, *odd_values(), (B, (0, 9)), [B, (0, 9)], str(trip), "10/4 1,0 from 0,9", 0, Party((0, 9))]:
            if not (isinstance(other, Trip) and (other.road, other.starts) == (B, (0, 9))):
                self.assertIs(trip == other, False)
                self.assertIs(other == trip, False)
                self.assertIs(trip != other, True)


class Model:
    """What the document says of the errors and results of edits, with lists that are changed."""

    def __init__(self, road, starts):
        self.walk, self.ride, self.bikes, self.starts = road[0], road[1], list(road[2]), list(starts)
        self.past = []

    def road(self):
        return (self.walk, self.ride, tuple(self.bikes))

    def error(self, name, *values):
        if len(self.past) == 60:
            return TooManyEdits()
        if name == "come":
            if not is_number(values[0], 0, 1000000):
                return BadStart(values[0])
            return TooManyPeople() if len(self.starts) == 10 else None
        if name == "leave":
            if not is_number(values[0], 0, len(self.starts) - 1):
                return NoPerson(values[0])
            return LastPerson() if len(self.starts) == 1 else None
        station, count = values
        if not is_number(station, 0, len(self.bikes) - 1):
            return NoStation(station)
        if not is_number(count, 1, 12):
            return BadCount(count)
        if name == "place":
            total = self.bikes[station] + count
            return TooMuch(total) if total > 12 else None
        return TooFew(self.bikes[station]) if self.bikes[station] < count else None

    def edit(self, name, *values):
        self.past.append((list(self.bikes), list(self.starts)))
        if name == "come":
            self.starts.append(values[0])
        elif name == "leave":
            del self.starts[values[0]]
        else:
            self.bikes[values[0]] += values[1] if name == "place" else -values[1]

    def undo(self):
        self.bikes, self.starts = self.past.pop()


def any_edit(chance, stages):
    name = chance.choice(("come", "come", "leave", "place", "take"))
    number = chance.choice((chance.randint(-1, 13), chance.randint(0, 3), chance.choice((None, True, False, (1,), "1"))))
    if name == "come":
        return (name, number)
    if name == "leave":
        return (name, chance.choice((number, chance.randint(0, 10))))
    return (name, chance.choice((number, chance.randint(0, stages))), chance.choice((number, chance.randint(1, 4))))


class ManyEdits(Case):
    def test_edits_and_undos(self):
        chance = random.Random(3)
        for road, starts in [(B, (0, 9)), (A, (0,)), (C, tuple(range(9))), ((9, 2, (3, 0, 12, 0, 1)), (4, 4, 4))]:
            trip, model = Trip(road, starts), Model(road, starts)
            for step in range(250):
                if chance.random() < 0.12 and step > 120:
                    self.check_undo(trip, model)
                else:
                    self.check_edit(trip, model, any_edit(chance, len(road[2])))
                self.assertEqual(now(trip), now(Trip(model.road(), tuple(model.starts))))
                self.assertTrue(trip == Trip(model.road(), tuple(model.starts)))
                self.assertEqual([len(trip), len(trip.edits())], [len(model.past)] * 2)

    def check_undo(self, trip, model):
        if model.past:
            model.undo()
            self.assertEqual(trip.undo(), len(model.past))
        else:
            self.refuses(NothingToUndo(), trip, trip.undo)

    def check_edit(self, trip, model, edit):
        error = model.error(*edit)
        if error is not None:
            before = now(trip)
            self.raises(error, getattr(trip, edit[0]), *edit[1:])
            self.assertEqual(now(trip), before)
        else:
            model.edit(*edit)
            self.assertEqual(getattr(trip, edit[0])(*edit[1:]), len(model.past))
            self.assertEqual(repr(trip.edits()[-1]), repr(edit))

    def test_equal_trips_tell_the_same(self):
        one, other = Trip(B, (0, 9)), Trip((10, 4, (2, 3)), (0, 9, 1))
        other.take(1, 3)
        other.leave(2)
        other.take(0, 1)
        self.assertEqual(now(one), now(other))
        for end in ENDS:
            for _ in range(2):
                self.assertEqual(one.certificate(end), other.certificate(end))


if __name__ == "__main__":
    unittest.main()
