"""Edits, as tuples of a name and values: their form, and what they make of a road and starts."""

from roadbikes.bounds import BATCH, MAX_BIKES, MAX_PEOPLE, MAX_START
from roadbikes.checks import is_number_from
from roadbikes.errors import (
    BadCount, BadEdit, BadEdits, BadStart, LastPerson, NoPerson, NoStation, TooFew, TooManyPeople, TooMuch)
from roadbikes.roads import with_further

EDIT_LENGTHS = {"come": 2, "leave": 2, "place": 3, "take": 3}


def is_edit(value):
    """Return whether any value is a tuple of the name of an edit and as many values as it takes."""
    if not isinstance(value, tuple) or len(value) == 0 or not isinstance(value[0], str):
        return False
    return EDIT_LENGTHS.get(value[0]) == len(value)


def check_batch(value):
    """Raise an error for any value that is not a list or tuple of edits, or longer than a batch."""
    if not isinstance(value, (list, tuple)) or len(value) > BATCH:
        raise BadEdits()
    for index, item in enumerate(value):
        if not is_edit(item):
            raise BadEdit(index)


def changed(road, starts, edit):
    """Return the road and the starts after an edit."""
    name = edit[0]
    if name == "come":
        return (road, with_person(starts, edit[1]))
    if name == "leave":
        return (road, without_person(starts, edit[1]))
    if name == "place":
        return (with_more_bikes(road, edit[1], edit[2]), starts)
    return (with_fewer_bikes(road, edit[1], edit[2]), starts)


def with_person(starts, start):
    """Return the starts with one more person at the end of the people."""
    if not is_number_from(start, 0, MAX_START):
        raise BadStart(start)
    if len(starts) >= MAX_PEOPLE:
        raise TooManyPeople()
    return starts + (start,)


def without_person(starts, person):
    """Return the starts without this person."""
    if not is_number_from(person, 0, len(starts) - 1):
        raise NoPerson(person)
    if len(starts) == 1:
        raise LastPerson()
    return starts[:person] + starts[person + 1:]


def with_more_bikes(road, station, count):
    """Return the road with more bicycles at a station."""
    check_bikes(road, station, count)
    total = road[2][station] + count
    if total > MAX_BIKES:
        raise TooMuch(total)
    return with_further(road, station, count)


def with_fewer_bikes(road, station, count):
    """Return the road with fewer bicycles at a station."""
    check_bikes(road, station, count)
    present = road[2][station]
    if present < count:
        raise TooFew(present)
    return with_further(road, station, -count)


def check_bikes(road, station, count):
    """Raise an error if no stage begins at the station, or if so many bicycles are never placed or taken at once."""
    if not is_number_from(station, 0, len(road[2]) - 1):
        raise NoStation(station)
    if not is_number_from(count, 1, MAX_BIKES):
        raise BadCount(count)
