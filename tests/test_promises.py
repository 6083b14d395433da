import random
import unittest

from cases import Case, now, picture
from samples import A, B, C, other_values

from roadbikes.bounds import LIMIT, MAX_START
from roadbikes.errors import (
    BadCount, BadEnd, BadRoad, BadStart, BadStarts, LastPerson, NoPerson, NoStation, NothingToUndo, Rejected, TooFew,
    TooLate, TooManyEdits, TooManyPeople, TooMuch, TripError)
from roadbikes.promises import Promise
from roadbikes.rule import least_finish
from roadbikes.trips import PromisedTrip, Trip
from roadbikes.values import Party


def no_ends():
    wrong = [value for value in other_values() if not (type(value) is int and 0 <= value <= LIMIT)]
    return [*wrong, True, False, -1, LIMIT + 1, (5,), [5], "5", Promise(5), Party((5,))]


class Promises(Case):
    def test_latest(self):
        for latest in (0, 1, 25, LIMIT):
            self.assertEqual(repr(Promise(latest).latest), repr(latest))

    def test_latest_is_only_read(self):
        for promise in (Promise(25), PromisedTrip(B, (0, 9), 25)):
            with self.assertRaises(AttributeError):
                promise.latest = 30
            self.assertEqual(promise.latest, 25)

    def test_bad_latest(self):
        for value in no_ends():
            self.raises(BadEnd(value), Promise, value)

    def test_left(self):
        for promise in (Promise(25), PromisedTrip(B, (0, 9), 25)):
            self.assertEqual([promise.left(tick) for tick in range(26)], list(range(25, -1, -1)))
            for tick in (26, 27, LIMIT):
                self.raises(TooLate(tick), promise.left, tick)
            for value in no_ends():
                self.raises(BadEnd(value), promise.left, value)
            self.assertEqual(promise.latest, 25)
        self.assertEqual([Promise(0).left(0), Promise(LIMIT).left(0), Promise(LIMIT).left(LIMIT)], [0, LIMIT, 0])


class Making(Case):
    def test_bases(self):
        trip = PromisedTrip(B, (0, 9), 20)
        self.assertTrue(issubclass(PromisedTrip, Trip) and issubclass(PromisedTrip, Promise))
        self.assertTrue(isinstance(trip, Trip) and isinstance(trip, Promise))
        self.assertFalse(isinstance(Trip(B, (0, 9)), Promise))

    def test_attributes(self):
        trip = PromisedTrip(B, (0, 9), 31)
        self.assertEqual([trip.road, trip.starts, trip.finish, trip.latest, len(trip)], [B, (0, 9), 20, 31, 0])
        self.assertEqual(now(trip), now(Trip(B, (0, 9))))
        for name in ["road", "starts", "finish"]:
            with self.assertRaises(AttributeError):
                setattr(trip, name, getattr(trip, name))
        self.assertEqual(str(trip), "2 stages, 1 bicycles, 2 people, finish 20, 0 edits")

    def test_just_kept(self):
        for road, starts in [(A, (0, 0)), (B, (0, 9)), (C, (3,)), ((3, 1, (0,)), (MAX_START,) * 10)]:
            finish = least_finish(road, starts)
            self.assertEqual(PromisedTrip(road, starts, finish).left(finish), 0)
            self.assertEqual(PromisedTrip(road, starts, LIMIT).latest, LIMIT)
            for latest in (0, finish // 2, finish - 1):
                self.raises(TooLate(finish), PromisedTrip, road, starts, latest)

    def test_order_of_errors(self):
        self.raises(BadRoad((None, "ticks")), PromisedTrip, (4, 4, (1,)), None, None)
        self.raises(BadRoad((None, "road")), PromisedTrip, None, (0, 9), 0)
        wrong = [0]
        self.raises(BadStarts(wrong), PromisedTrip, B, wrong, None)
        self.raises(BadStarts(()), PromisedTrip, B, (), 0)
        for value in no_ends():
            self.raises(BadEnd(value), PromisedTrip, B, (0, 9), value)
        self.raises(TooLate(20), PromisedTrip, B, (0, 9), 19)


class PromisedEdits(Case):
    def test_come(self):
        trip = PromisedTrip(B, (0, 9), 20)
        self.assertEqual(trip.come(0), 1)
        for start, finish in [(1, 21), (5, 23), (MAX_START, MAX_START + 8)]:
            self.assertEqual(least_finish(B, (0, 9, 0, start)), finish)
            self.refuses(TooLate(finish), trip, trip.come, start)
        self.assertEqual([trip.come(0), trip.finish], [2, 20])

    def test_take(self):
        trip = PromisedTrip((10, 4, (2, 1)), (0, 9), 20)
        self.assertEqual([trip.take(1, 1), trip.finish], [1, 17])
        self.refuses(TooLate(29), trip, trip.take, 0, 2)
        self.assertEqual([trip.take(0, 1), trip.finish], [2, 20])
        self.refuses(TooLate(29), trip, trip.take, 0, 1)

    def test_leave_and_place_keep_the_promise(self):
        trip = PromisedTrip(B, (0, 9, 0), 20)
        self.assertEqual([trip.leave(1), trip.place(0, 11), trip.leave(0), trip.place(1, 12)], [1, 2, 3, 4])
        self.assertEqual(trip.finish, 8)

    def test_too_late_after_all_other_errors(self):
        trip = PromisedTrip((10, 4, (1,) * 3), (0,) * 9, 30)
        self.assertEqual(trip.come(0), 1)
        self.refuses(TooManyPeople(), trip, trip.come, MAX_START)
        for value in [MAX_START + 1, -1, True, None]:
            self.refuses(BadStart(value), trip, trip.come, value)
        trip.leave(0)
        self.refuses(TooLate(MAX_START + 12), trip, trip.come, MAX_START)

    def test_errors_of_take_before_too_late(self):
        trip = PromisedTrip(B, (0, 9), 20)
        self.refuses(NoStation(2), trip, trip.take, 2, 1)
        self.refuses(NoStation(False), trip, trip.take, False, 0)
        self.refuses(BadCount(True), trip, trip.take, 0, True)
        self.refuses(TooFew(1), trip, trip.take, 0, 2)
        self.refuses(TooLate(29), trip, trip.take, 0, 1)

    def test_errors_of_leave_and_place(self):
        trip = PromisedTrip(B, (9,), 20)
        self.refuses(NoPerson(1), trip, trip.leave, 1)
        self.refuses(LastPerson(), trip, trip.leave, 0)
        self.refuses(NoStation(-1), trip, trip.place, -1, 1)
        self.refuses(BadCount(13), trip, trip.place, 0, 13)
        self.refuses(TooMuch(13), trip, trip.place, 0, 12)

    def test_too_many_edits_before_too_late(self):
        trip = PromisedTrip(B, (0, 9), 20)
        for _ in range(30):
            trip.place(1, 1)
            trip.take(1, 1)
        self.refuses(TooManyEdits(), trip, trip.come, MAX_START)
        self.raises(TooManyEdits(), trip.take, 0, 1)
        self.raises(TooManyEdits(), trip.leave, 0)
        self.raises(TooManyEdits(), trip.place, 0, 1)
        trip.undo()
        self.refuses(TooLate(MAX_START + 8), trip, trip.come, MAX_START)

    def test_any_values(self):
        trip = PromisedTrip(B, (0, 9), 20)
        before = picture(trip)
        for value in [None, True, [1], {"a": 1}, "1", (1,), 10 ** 39, -1]:
            self.raises(BadStart(value), trip.come, value)
            self.raises(NoPerson(value), trip.leave, value)
            self.raises(NoStation(value), trip.place, value, 1)
            self.raises(BadCount(value), trip.take, 0, value)
        self.assertEqual(picture(trip), before)

    def test_undo_never_is_too_late(self):
        trip = PromisedTrip(B, (0, 9), 20)
        self.refuses(NothingToUndo(), trip, trip.undo)
        trip.place(0, 1)
        trip.leave(0)
        trip.come(0)
        self.assertEqual([trip.undo(), trip.undo(), trip.undo(), trip.finish], [2, 1, 0, 20])

    def test_edits_and_undos(self):
        chance = random.Random(11)
        for road, starts, over in [(B, (0, 9), 0), (A, (0, 0), 3), ((9, 2, (3, 0, 2, 0, 1)), (4, 4, 4, 9), 6)]:
            latest = least_finish(road, starts) + over
            promised, free = PromisedTrip(road, starts, latest), Trip(road, starts)
            for _ in range(400):
                self.check_step(promised, free, chance)
                self.assertLessEqual(promised.finish, latest)
                self.assertEqual(now(promised), now(Trip(promised.road, promised.starts)))
                self.assertEqual([promised.edits(), promised.state()], [free.edits(), free.state()])
            self.assertEqual([promised.latest, promised.left(0)], [latest, latest])

    def check_step(self, promised, free, chance):
        """One step of both trips: the promised one does the same or is too late."""
        name, *values = chance.choice((
            ("come", chance.randint(0, 12)), ("leave", chance.randint(0, 9)),
            ("place", chance.randint(0, 4), chance.randint(1, 3)), ("take", chance.randint(0, 4), chance.randint(1, 3)),
            ("undo",)))
        try:
            version = getattr(free, name)(*values)
        except (TripError, LookupError) as error:
            self.raises(error, getattr(promised, name), *values)
            return
        if free.finish > promised.latest:
            self.raises(TooLate(free.finish), getattr(promised, name), *values)
            self.raises(Rejected(0), promised.attempt, [(name, *values)])
            free.undo()
        else:
            self.assertEqual(getattr(promised, name)(*values), version)


class Equality(Case):
    def test_promised_trips(self):
        one = PromisedTrip(B, (0, 9), 25)
        for other, expected in [
            (PromisedTrip(B, (9, 0), 25), True), (PromisedTrip(B, (0, 9), 26), False), (Trip(B, (0, 9)), False),
            (PromisedTrip(B, (0, 8), 25), False), (PromisedTrip((10, 4, (2, 0)), (0, 9), 25), False), (Promise(25), False),
            (25, False), (None, False), ((B, (0, 9), 25), False), (Party((0, 9)), False),
        ]:
            self.assertEqual([one == other, other == one], [expected, expected])
            self.assertEqual([one != other, other != one], [not expected, not expected])
        self.assertIs(one == one, True)

    def test_edits_do_not_matter(self):
        one, other = PromisedTrip(B, (0, 9), 25), PromisedTrip((10, 4, (2, 0)), (9,), 25)
        other.come(0)
        self.assertIs(one == other, False)
        other.take(0, 1)
        self.assertIs(one == other, True)

    def test_other_values(self):
        trip = PromisedTrip(B, (0, 9), 25)
        for value in other_values():
            self.assertEqual([trip == value, value == trip], [False, False])


class Queries(Case):
    def test_versions(self):
        trip = PromisedTrip(B, (0, 9), 31)
        trip.come(0)
        trip.place(1, 2)
        self.assertEqual(trip.state(version=0), (B, (0, 9)))
        self.assertEqual(trip.state(), ((10, 4, (1, 2)), (0, 9, 0)))
        self.assertEqual(trip.certificate(19, version=0), ("people", (0, 1)))
        self.assertEqual(list(trip.walk(version=0)), [(0, (1,), (10, 13)), (1, (1,), (20, 17))])
        self.assertEqual(trip.edits(), (("come", 0), ("place", 1, 2)))
        self.assertEqual(picture(trip), picture(trip))


if __name__ == "__main__":
    unittest.main()
