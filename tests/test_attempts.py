import unittest

from cases import Case, now, picture
from samples import B, other_values

from roadbikes.bounds import BATCH
from roadbikes.errors import (
    BadEdit, BadEdits, BadStart, Busy, LastPerson, NoPerson, NoStation, NothingToUndo, NoVersion, Rejected, TooFew,
    TooLate, TooManyEdits, TooMuch)
from roadbikes.shells import Shell
from roadbikes.trips import PromisedTrip, Trip
from roadbikes.values import Party

EDITS = [("come", 4), ("place", 1, 2), ("leave", 0), ("take", 1, 1)]
# Each raises its error as the only edit of a batch for Trip(B, (0, 9)).
FAILING = [
    ("come", -1), ("come", True), ("come", None), ("come", [1]), ("leave", 2), ("leave", False), ("leave", "0"),
    ("place", 2, 1), ("place", 0, 0), ("place", 0, 12), ("place", True, 1), ("take", 1, 1), ("take", 0, True),
    ("take", -1, 1), ("take", 0, {"a": 1}),
]
NO_EDITS = [
    (), ("come",), ("come", 1, 2), ("leave",), ("leave", 0, 0), ("place", 0), ("place", 0, 1, 1), ("take",), ("take", 0),
    ("undo",), ("attempt", []), ("Come", 1), ("come ", 1), ("", 1), (None, 1), (True, 1), (["come"], 1), (("come",), 1),
    ({"come": 1}, 1), ["come", 1], ["leave", 0], "come", "come 1", {"come": 1}, None, 1, ("state",), ("do_edit", 1),
    ("call_edit", 1), ("walk",),
]


def new_trip():
    return Trip(B, (0, 9))


def by_itself(edits):
    """The trip after these edits, each done by itself."""
    trip = new_trip()
    for name, *values in edits:
        getattr(trip, name)(*values)
    return trip


class Batches(Case):
    def test_all_edits_are_done(self):
        for kind in (list, tuple):
            for many in range(len(EDITS) + 1):
                trip = new_trip()
                edits = kind(EDITS[:many])
                self.assertEqual(trip.attempt(edits), many)
                self.assertEqual(picture(trip), picture(by_itself(EDITS[:many])))
                self.assertEqual(edits, kind(EDITS[:many]))

    def test_behind_other_edits(self):
        trip = new_trip()
        trip.come(1)
        self.assertEqual(trip.attempt([("leave", 2), ("come", 3)]), 2)
        self.assertEqual([len(trip), trip.starts], [3, (0, 9, 3)])
        self.assertEqual(trip.attempt((("place", 0, 1),), watch=None), 1)

    def test_each_edit_can_be_undone(self):
        trip = new_trip()
        trip.attempt(EDITS)
        for many in reversed(range(len(EDITS))):
            self.assertEqual(trip.undo(), many)
            self.assertEqual(picture(trip), picture(by_itself(EDITS[:many])))

    def test_empty_batch(self):
        for edits in ([], ()):
            trip = new_trip()
            asked = []
            self.assertEqual(trip.attempt(edits, watch=asked.append), 0)
            self.assertEqual([asked, len(trip)], [[], 0])

    def test_longest_batch(self):
        self.assertEqual(BATCH, 20)
        edits = [("place", 1, 1), ("take", 1, 1)] * 10
        trip = new_trip()
        self.assertEqual(trip.attempt(edits), 20)
        self.assertEqual([len(trip), trip.edits()], [20, tuple(edits)])

    def test_bad_edits(self):
        trip = new_trip()
        trip.come(1)
        long = [("place", 1, 1), ("take", 1, 1)] * 11
        wrong = [value for value in other_values() if not isinstance(value, (list, tuple))]
        wrong += [long[:21], tuple(long[:21]), [None] * 21, (1,) * 1000, "come", ("come 1 " * 100), {"come": 1}, Party((0,))]
        for value in [*wrong, new_trip(), trip]:
            self.refuses(BadEdits(), trip, trip.attempt, value)
            self.refuses(BadEdits(), trip, trip.attempt, value, watch=self.fail)

    def test_bad_edit(self):
        trip = new_trip()
        trip.come(1)
        for value in [*NO_EDITS, *other_values(), trip, Party((0,))]:
            for edits in ([value], (value,)):
                self.refuses(BadEdit(0), trip, trip.attempt, edits, watch=self.fail)
            self.raises(BadEdit(2), trip.attempt, [("come", 1), ("leave", 0), value, None])
            self.raises(BadEdit(19), trip.attempt, [("come", 1)] * 19 + [value])

    def test_bad_edit_before_any_edit_is_done(self):
        trip = new_trip()
        for failing in FAILING:
            self.refuses(BadEdit(1), trip, trip.attempt, [failing, None], watch=self.fail)
        self.refuses(BadEdit(0), trip, trip.attempt, [None, ("come", 1)], watch=self.fail)
        for value in other_values():
            self.raises(BadEdit(0), trip.attempt, ["come", value])

    def test_any_values_in_edits(self):
        trip = new_trip()
        for value in [*other_values(), trip, Party((0,))]:
            for edit in [("come", value), ("leave", value), ("place", value, 1), ("take", 0, value)]:
                self.raises(Rejected(0), trip.attempt, [edit])
            self.raises(Rejected(0), trip.attempt, [("place", value, value)])
        self.assertEqual(picture(trip), picture(new_trip()))


class RejectedBatches(Case):
    def test_each_error(self):
        for failing in FAILING:
            trip = new_trip()
            trip.come(5)
            trip.undo()
            self.refuses(Rejected(0), trip, trip.attempt, [failing])
            self.refuses(Rejected(0), trip, trip.attempt, (failing, ("come", 1)))

    def test_done_edits_are_undone(self):
        for before in range(3):
            trip = new_trip()
            for start in range(before):
                trip.come(start)
            for many in range(5):
                edits = [("come", 7)] * many + [("place", 1, 13)] + [("come", 8)]
                self.refuses(Rejected(many), trip, trip.attempt, edits)

    def test_index_of_the_first_error(self):
        trip = new_trip()
        self.refuses(Rejected(1), trip, trip.attempt, [("come", 4), ("take", 1, 1), ("come", -1)])
        self.refuses(Rejected(0), trip, trip.attempt, [("come", -1), ("take", 1, 1)])
        self.refuses(Rejected(2), trip, trip.attempt, [("leave", 0), ("place", 1, 1), ("leave", 0), ("leave", 9)])

    def test_edits_see_the_edits_before(self):
        trip = new_trip()
        self.assertEqual(trip.attempt([("place", 1, 1), ("take", 1, 1), ("come", 3), ("leave", 2)]), 4)
        self.refuses(Rejected(8), trip, trip.attempt, [("come", 0)] * 9)

    def test_too_many_edits(self):
        trip = new_trip()
        for _ in range(29):
            self.assertEqual(trip.attempt([("come", 1), ("leave", 2)]), 2)
        self.refuses(Rejected(2), trip, trip.attempt, [("come", 1), ("leave", 2), ("come", 1)])
        self.assertEqual(trip.attempt([("come", 1), ("leave", 2)]), 2)
        for edit in [("come", 1), ("leave", 0), ("place", 0, 1), ("take", 0, 1), ("come", None)]:
            self.refuses(Rejected(0), trip, trip.attempt, [edit])
        self.assertEqual([trip.attempt([]), len(trip)], [0, 60])
        self.raises(BadEdits(), trip.attempt, None)
        self.raises(BadEdit(0), trip.attempt, [None])

    def test_watch_before_an_error(self):
        trip = new_trip()
        seen = []
        with self.assertRaises(Rejected):
            trip.attempt([*EDITS, ("leave", 7), ("come", 1)], watch=lambda one: seen.append(len(one)))
        self.assertEqual([seen, picture(trip)], [[1, 2, 3, 4], picture(new_trip())])

    def test_the_cause(self):
        for edit, kind in [
            (("come", -1), BadStart), (("leave", 2), NoPerson), (("place", 2, 1), NoStation), (("place", 0, 12), TooMuch),
            (("take", 1, 1), TooFew),
        ]:
            with self.assertRaises(Rejected) as caught:
                new_trip().attempt([edit])
            self.assertIs(type(caught.exception.__cause__), kind)


class Watching(Case):
    def test_called_after_each_edit_with_the_trip(self):
        trip = new_trip()
        seen = []

        def watch(one):
            self.assertIs(one, trip)
            seen.append(picture(one))

        self.assertEqual(trip.attempt(EDITS, watch=watch), 4)
        self.assertEqual(seen, [picture(by_itself(EDITS[:many])) for many in range(1, 5)])

    def test_false_values_go_on(self):
        for answer in [None, False, 0, "", (), [], {}]:
            trip = new_trip()
            self.assertEqual(trip.attempt(EDITS, watch=lambda one: answer), 4)
            self.assertEqual(len(trip), 4)

    def test_true_values_stop(self):
        for answer in [True, 1, -1, "0", "no", (0,), [None], {"a": 0}, Party((0,)), object()]:
            trip = new_trip()
            self.assertEqual(trip.attempt(EDITS, watch=lambda one: answer), 1)
            self.assertEqual(picture(trip), picture(by_itself(EDITS[:1])))

    def test_stop_after_each_number(self):
        for many in range(1, 5):
            trip = new_trip()
            self.assertEqual(trip.attempt(EDITS, watch=lambda one: len(one) == many), many)
            self.assertEqual(picture(trip), picture(by_itself(EDITS[:many])))
            self.assertEqual(trip.come(1), many + 1)

    def test_a_stop_before_an_error(self):
        trip = new_trip()
        self.assertEqual(trip.attempt([("come", 1), ("come", -1)], watch=lambda one: True), 1)
        self.assertEqual(trip.starts, (0, 9, 1))

    def test_queries_while_watching(self):
        trip = new_trip()
        same = Trip((10, 4, (1, 2)), (0, 9, 4))

        def watch(one):
            if len(one) == 2:
                self.assertEqual(now(one), now(same))
                self.assertTrue(one == same)
                self.assertEqual(one.edits(), (("come", 4), ("place", 1, 2)))
                self.assertEqual(one.state(version=0), (B, (0, 9)))
                self.assertEqual(one.state(version=1), (B, (0, 9, 4)))
                self.assertEqual(one.certificate(20, version=0), new_trip().certificate(20))
                self.assertEqual(list(one.walk(version=0)), list(new_trip().walk()))
                self.raises(NoVersion(3), one.state, version=3)
                self.assertEqual(str(one), f"2 stages, 3 bicycles, 3 people, finish {same.finish}, 2 edits")
                self.assertEqual(Trip.read("10/4 1,2 from 9,4,0") == one, True)

        self.assertEqual(trip.attempt(EDITS, watch=watch), 4)

    def test_busy(self):
        trip = new_trip()
        trip.come(3)

        def watch(one):
            for value in [0, -1, None, True, [1]]:
                self.refuses(Busy(), one, one.come, value)
                self.refuses(Busy(), one, one.leave, value)
                self.refuses(Busy(), one, one.place, value, 1)
                self.refuses(Busy(), one, one.take, 0, value)
                self.refuses(Busy(), one, one.attempt, value)
                self.refuses(Busy(), one, one.attempt, [value])
            self.refuses(Busy(), one, one.undo)
            for edits in [[], (), [("come", 1)], [("come", -1)], [None], None, [None] * 21]:
                self.refuses(Busy(), one, one.attempt, edits)
                self.refuses(Busy(), one, one.attempt, edits, watch=watch)
            shell = Shell(one)
            for line in ["come 1", "leave 0", "place 0 1", "take 0 1", "undo"]:
                self.assertEqual(shell.execute(line), "error Busy")

        self.assertEqual(trip.attempt(EDITS, watch=watch), 4)
        self.assertEqual([trip.come(1), trip.undo(), trip.attempt([("come", 2)])], [6, 5, 1])

    def test_busy_before_too_many_edits(self):
        trip = new_trip()
        for _ in range(3):
            trip.attempt([("come", 1), ("leave", 2)] * 10 if len(trip) < 40 else [("come", 1), ("leave", 2)] * 9)
        self.assertEqual(len(trip), 58)

        def watch(one):
            for action, values in [(one.come, (1,)), (one.leave, (0,)), (one.place, (0, 1)), (one.take, (0, 1))]:
                self.raises(Busy(), action, *values)

        self.assertEqual(trip.attempt([("come", 1), ("leave", 2)], watch=watch), 2)
        self.raises(TooManyEdits(), trip.come, 1)

    def test_busy_before_nothing_to_undo(self):
        trip = new_trip()
        self.raises(NothingToUndo(), trip.undo)
        self.assertEqual(trip.attempt([("come", 1)], watch=lambda one: self.raises(Busy(), one.undo)), 1)

    def test_another_trip_can_be_edited(self):
        trip, other = new_trip(), new_trip()

        def watch(one):
            self.assertEqual(other.attempt([("come", 1), ("leave", 2)], watch=lambda two: self.raises(Busy(), one.undo)), 2)
            self.assertEqual([other.place(0, 1), other.undo()], [2 * len(one) + 1, 2 * len(one)])

        self.assertEqual(trip.attempt(EDITS, watch=watch), 4)
        self.assertEqual([len(other), other.state()], [8, (B, (0, 9))])
        self.assertEqual([trip.undo(), other.undo()], [3, 7])

    def test_edits_of_another_trip_stay_behind_an_error(self):
        trip, other = new_trip(), new_trip()

        def watch(one):
            other.come(7)
            raise KeyError("no")

        with self.assertRaises(KeyError):
            trip.attempt(EDITS, watch=watch)
        self.assertEqual([len(trip), len(other)], [0, 1])


class WatchWithErrors(Case):
    def propagates(self, error):
        for at in range(1, 5):
            trip = new_trip()
            trip.come(6)
            before = picture(trip)
            seen = []

            def watch(one):
                seen.append(len(one))
                if len(one) == at + 1:
                    raise error

            with self.assertRaises(type(error)) as caught:
                trip.attempt(EDITS, watch=watch)
            self.assertIs(caught.exception, error)
            self.assertEqual([picture(trip), seen], [before, list(range(2, at + 2))])
            self.assertEqual([trip.come(1), trip.undo(), trip.undo()], [2, 1, 0])

    def test_errors_of_the_package(self):
        for error in [
            Rejected(9), Busy(), BadEdits(), BadEdit(3), TooManyEdits(), BadStart(5), NoPerson(1), NoStation(1), NoVersion(1),
            TooLate(4), LastPerson(), NothingToUndo(),
        ]:
            self.propagates(error)

    def test_other_errors(self):
        for error in [
            ValueError("a"), LookupError("a"), KeyError("a"), ZeroDivisionError(), TypeError(), AttributeError("a"),
            RuntimeError(), StopIteration(), KeyboardInterrupt(), SystemExit(1), GeneratorExit(), Exception(),
        ]:
            self.propagates(error)

    def test_an_error_of_the_trip_itself(self):
        trip = new_trip()
        for watch, error in [
            (lambda one: one.undo(), Busy()), (lambda one: one.come(-1), Busy()), (lambda one: one.state(version=9), NoVersion(9)),
            (lambda one: Trip(B, (0,)).leave(0), LastPerson()),
        ]:
            self.refuses(error, trip, trip.attempt, EDITS, watch=watch)

    def test_a_true_value_that_raises(self):
        class Odd:
            def __bool__(self):
                raise KeyError("odd")

        trip = new_trip()
        with self.assertRaises(KeyError):
            trip.attempt(EDITS, watch=lambda one: Odd())
        self.assertEqual([picture(trip), trip.come(1)], [picture(new_trip()), 1])

    def test_edits_go_on_afterwards(self):
        trip = new_trip()
        for _ in range(3):
            with self.assertRaises(ZeroDivisionError):
                trip.attempt(EDITS, watch=lambda one: 1 // 0)
            self.raises(Rejected(0), trip.attempt, [("leave", 5)])
        self.assertEqual([trip.attempt(EDITS), trip.undo()], [4, 3])


class Copies(Case):
    def test_changes_to_the_list_do_not_matter(self):
        for change in [
            lambda edits: edits.clear(), lambda edits: edits.append(("come", 1)), lambda edits: edits.reverse(),
            lambda edits: edits.__setitem__(slice(None), [None] * 4), lambda edits: edits.extend([("come", -1)] * 30),
            lambda edits: edits.insert(0, ("leave", 0)), lambda edits: edits.pop(),
        ]:
            for at in range(1, 5):
                trip, edits = new_trip(), list(EDITS)

                def watch(one):
                    if len(one) == at:
                        change(edits)

                self.assertEqual(trip.attempt(edits, watch=watch), 4)
                self.assertEqual(picture(trip), picture(by_itself(EDITS)))

    def test_later_changes_do_not_matter(self):
        trip, edits = new_trip(), list(EDITS)
        trip.attempt(edits)
        before = picture(trip)
        edits.clear()
        self.assertEqual(picture(trip), before)


class PromisedBatches(Case):
    def test_too_late_is_an_error_of_edits(self):
        trip = PromisedTrip(B, (0, 9), 20)
        self.refuses(Rejected(1), trip, trip.attempt, [("come", 0), ("come", 1), ("come", 0)])
        self.refuses(Rejected(0), trip, trip.attempt, [("take", 0, 1)])
        self.assertEqual(trip.attempt([("come", 0), ("place", 0, 1), ("come", 1), ("leave", 3)]), 4)

    def test_left_while_watching(self):
        trip = PromisedTrip(B, (0, 9), 25)
        seen = []

        def watch(one):
            self.assertIs(type(one), PromisedTrip)
            seen.append((one.latest, one.finish, one.left(one.finish)))
            self.raises(TooLate(26), one.left, 26)
            self.refuses(Busy(), one, one.come, 10 ** 6)
            self.refuses(Busy(), one, one.take, 0, 1)
            self.refuses(Busy(), one, one.leave, 0)
            self.refuses(Busy(), one, one.place, 0, 1)

        self.assertEqual(trip.attempt([("come", 0), ("come", 1), ("place", 0, 1)], watch=watch), 3)
        self.assertEqual(seen, [(25, 20, 5), (25, 21, 4), (25, 20, 5)])


if __name__ == "__main__":
    unittest.main()
