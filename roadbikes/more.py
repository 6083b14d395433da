"""Further questions: how many more bicycles, how late one more person, and who need not ride."""

from roadbikes.roads import with_further
from roadbikes.rule import least_finish


def fewest_bikes(road, starts, end, station):
    """Return the least number of further bicycles at the station with which the end can be kept, or None."""
    # One for each of the people is enough for everybody to ride from there on.
    for many in range(len(starts) + 1):
        if least_finish(with_further(road, station, many), starts) <= end:
            return many
    return None


def latest_start(road, starts, end):
    """Return the latest start of one more person with which the end can be kept, or None."""
    walk, ride, bikes = road
    # Whether the end can be kept depends only on how many rides each person needs for it,
    # so the latest start is one that leaves no tick over for some number of rides.
    for walks in range(len(bikes) + 1):
        start = end - walk * walks - ride * (len(bikes) - walks)
        if start >= 0 and least_finish(road, starts + (start,)) <= end:
            return start
    return None


def can_walk(road, starts, end, person):
    """Return whether the end can be kept by a plan in which this person never rides."""
    walk, ride, bikes = road
    if starts[person] + walk * len(bikes) > end:
        return False
    # Who walks all the way leaves all bicycles to the others.
    others = starts[:person] + starts[person + 1:]
    return len(others) == 0 or least_finish(road, others) <= end
