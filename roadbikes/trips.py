"""Trips: roads and people that change, with undo, and trips that keep a promise."""

from roadbikes.changes import changed, check_batch
from roadbikes.checks import is_end, is_number_from, is_starts
from roadbikes.errors import (
    BadEnd, BadRoad, BadStarts, Busy, NoPerson, NoStation, NothingToUndo, NoVersion, Rejected, TooLate, TooManyEdits,
    TripError)
from roadbikes.plans import ticks_of
from roadbikes.promises import Promise
from roadbikes.roads import road_error
from roadbikes.rule import find_certificate, least_finish, rule_plan
from roadbikes.texts import parse_trip


class Trip:
    """A road and people, with the edits that stand."""

    # This is MAX_EDITS; a value of a class is written out.
    MOST_EDITS = 60

    def __init__(self, road, starts):
        error = road_error(road)
        if error is not None:
            raise BadRoad(error)
        if not is_starts(starts):
            raise BadStarts(starts)
        # Both are tuples that an edit replaces, so that a batch that fails can put back the old ones.
        self.done = ()
        self.versions = ((road, starts, least_finish(road, starts)),)
        self.watched = False

    @property
    def road(self):
        """The present road."""
        return self.versions[-1][0]

    @property
    def starts(self):
        """The present starts."""
        return self.versions[-1][1]

    @property
    def finish(self):
        """The least finish for the present road and starts."""
        return self.versions[-1][2]

    def come(self, start):
        """Add a person at the end of the people; return the new version."""
        return self.do_edit(("come", start), None)

    def leave(self, person):
        """Remove a person; return the new version."""
        return self.do_edit(("leave", person), None)

    def place(self, station, count):
        """Put more bicycles to a station; return the new version."""
        return self.do_edit(("place", station, count), None)

    def take(self, station, count):
        """Take bicycles away from a station; return the new version."""
        return self.do_edit(("take", station, count), None)

    def do_edit(self, edit, latest):
        """Do an edit after which the finish is at most latest, or any finish for None; return the new version."""
        self.check_not_watched()
        if len(self.done) >= self.MOST_EDITS:
            raise TooManyEdits()
        road, starts = changed(self.road, self.starts, edit)
        finish = least_finish(road, starts)
        if latest is not None and finish > latest:
            raise TooLate(finish)
        self.done = self.done + (edit,)
        self.versions = self.versions + ((road, starts, finish),)
        return len(self.done)

    def check_not_watched(self):
        """Raise an error while a watch of this trip runs."""
        if self.watched:
            raise Busy()

    def undo(self):
        """Remove the last edit that stands; return the new version."""
        self.check_not_watched()
        if len(self.done) == 0:
            raise NothingToUndo()
        self.done = self.done[:-1]
        self.versions = self.versions[:-1]
        return len(self.done)

    def attempt(self, edits, *, watch=None):
        """Do edits until watch returns a true value, or none if an error is raised; return how many are done."""
        self.check_not_watched()
        check_batch(edits)
        done = self.done
        versions = self.versions
        try:
            many = self.do_batch(list(edits), watch)
            done = self.done
            versions = self.versions
        finally:
            # Whatever error is on its way, also any of watch, these are the old ones then.
            self.done = done
            self.versions = versions
        return many

    def do_batch(self, batch, watch):
        """Do the edits of a batch until watch returns a true value; return how many are done."""
        for index, edit in enumerate(batch):
            try:
                self.call_edit(edit)
            except (TripError, NoPerson, NoStation) as error:
                raise Rejected(index) from error
            if watch is not None and self.ask(watch):
                return index + 1
        return len(batch)

    def call_edit(self, edit):
        """Do an edit that is given as a tuple of its name and values; return the new version."""
        name = edit[0]
        if name == "come":
            return self.come(edit[1])
        if name == "leave":
            return self.leave(edit[1])
        if name == "place":
            return self.place(edit[1], edit[2])
        return self.take(edit[1], edit[2])

    def ask(self, watch):
        """Return whether what watch returns for this trip counts as true."""
        self.watched = True
        try:
            return bool(watch(self))
        finally:
            self.watched = False

    def state(self, *, version=None):
        """Return the road and the starts, now or after so many of the edits that stand."""
        if version is None:
            return (self.road, self.starts)
        if not is_number_from(version, 0, len(self.done)):
            raise NoVersion(version)
        return self.versions[version][:2]

    def certificate(self, end, *, version=None):
        """Return a certificate for the end, now or after so many of the edits that stand."""
        road, starts = self.state(version=version)
        if not is_end(end):
            raise BadEnd(end)
        return find_certificate(road, starts, end)

    def walk(self, *, version=None):
        """Yield each stage of the plan of the rule, its riders, and the ticks at which the people come behind it."""
        road, starts = self.state(version=version)
        plan = rule_plan(road, starts)
        rows = ticks_of(road, starts, plan)
        for stage, riders in enumerate(plan):
            yield (stage, riders, rows[stage + 1])

    def edits(self):
        """Return the edits that stand, the first one first."""
        return self.done

    @classmethod
    def read(cls, text):
        """Return a new trip with the road and the starts of a text."""
        road, starts = parse_trip(text)
        return cls(road, starts)

    def __len__(self):
        return len(self.done)

    def __str__(self):
        return ", ".join([
            f"{len(self.road[2])} stages", f"{sum(self.road[2])} bicycles", f"{len(self.starts)} people",
            f"finish {self.finish}", f"{len(self.done)} edits"])

    def __eq__(self, other):
        # A trip that keeps a promise is never equal to one that keeps none.
        return isinstance(other, Trip) and not isinstance(other, PromisedTrip) and self.goes_like(other)

    def goes_like(self, other):
        """Return whether another trip has the same road, and the same starts in any order."""
        return self.road == other.road and sorted(self.starts) == sorted(other.starts)


class PromisedTrip(Trip, Promise):
    """A trip whose finish is never later than a latest tick."""

    def __init__(self, road, starts, latest):
        Trip.__init__(self, road, starts)
        Promise.__init__(self, latest)
        if self.finish > self.latest:
            raise TooLate(self.finish)

    def come(self, start):
        """Add a person at the end of the people if the promise is kept then; return the new version."""
        return self.do_edit(("come", start), self.latest)

    def leave(self, person):
        """Remove a person if the promise is kept then; return the new version."""
        return self.do_edit(("leave", person), self.latest)

    def place(self, station, count):
        """Put more bicycles to a station if the promise is kept then; return the new version."""
        return self.do_edit(("place", station, count), self.latest)

    def take(self, station, count):
        """Take bicycles away from a station if the promise is kept then; return the new version."""
        return self.do_edit(("take", station, count), self.latest)

    def __eq__(self, other):
        return isinstance(other, PromisedTrip) and self.latest == other.latest and self.goes_like(other)
