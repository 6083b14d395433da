"""Roads: their form, their bicycles, and roads one behind the other."""

from roadbikes.bounds import MAX_BIKES, MAX_STAGES, MAX_TICKS
from roadbikes.checks import is_number_from
from roadbikes.errors import OtherTicks, TooLong


def is_road(value):
    """Return whether any value is a road."""
    return road_error(value) is None


def road_error(value):
    """Return None for a road, and what is wrong first for any other value."""
    if not isinstance(value, tuple) or len(value) != 3:
        return (None, "road")
    walk, ride, bikes = value
    if not is_number_from(walk, 1, MAX_TICKS) or not is_number_from(ride, 1, walk - 1):
        return (None, "ticks")
    if not isinstance(bikes, tuple) or not 1 <= len(bikes) <= MAX_STAGES:
        return (None, "bikes")
    for index, count in enumerate(bikes):
        if not is_number_from(count, 0, MAX_BIKES):
            return (index, "bikes")
    return None


def counts_of(road):
    """Return for each stage how many bicycles stand at its station and before it."""
    bikes = road[2]
    return tuple([sum(bikes[:stage + 1]) for stage in range(len(bikes))])


def room_of(road, many):
    """Return how often at most that many people can ride in all."""
    return sum([min(count, many) for count in counts_of(road)])


def with_further(road, station, many):
    """Return the road with so many further bicycles at a station, or fewer if many is less than 0."""
    walk, ride, bikes = road
    return (walk, ride, bikes[:station] + (bikes[station] + many,) + bikes[station + 1:])


def joined(road, *others):
    """Return the road with the stages of all these roads, one behind the other."""
    for index, other in enumerate(others):
        if other[:2] != road[:2]:
            raise OtherTicks(index)
    walk, ride, bikes = road
    for other in others:
        bikes = bikes + other[2]
    if len(bikes) > MAX_STAGES:
        raise TooLong(MAX_STAGES)
    return (walk, ride, bikes)
