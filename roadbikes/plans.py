"""Plans: who rides on which stage, and when everybody is where under a plan."""

from roadbikes.checks import is_number_from


def is_plan(road, people, value):
    """Return whether any value is a plan for the road and so many people."""
    bikes = road[2]
    if not isinstance(value, tuple) or len(value) != len(bikes):
        return False
    brought = 0
    for riders, standing in zip(value, bikes):
        if not is_riders(riders, people) or len(riders) > brought + standing:
            return False
        brought = len(riders)
    return True


def is_riders(value, people):
    """Return whether any value is an ascending tuple of some of so many people."""
    if not isinstance(value, tuple):
        return False
    least = 0
    for person in value:
        if not is_number_from(person, least, people - 1):
            return False
        least = person + 1
    return True


def ticks_of(road, starts, plan):
    """Return the ticks at which the people come to each station."""
    walk, ride, bikes = road
    rows = [starts]
    brought = ()
    for riders, standing in zip(plan, bikes):
        ticks = rows[-1]
        leaving = leaving_ticks(ticks, riders, bike_ticks(ticks, brought, standing))
        rows.append(tuple([
            tick + (ride if person in riders else walk) for person, tick in enumerate(leaving)
        ]))
        brought = riders
    return tuple(rows)


def bike_ticks(ticks, brought, standing):
    """Return the sorted ticks at which the bicycles of a station come there.

    ticks are those at which the people come, and brought are the people who come by bicycle.
    """
    return sorted([0] * standing + [ticks[person] for person in brought])


def leaving_ticks(ticks, riders, bikes):
    """Return the ticks at which the people leave a station.

    ticks are those at which they come, and bikes the sorted ticks at which its bicycles come.
    """
    leaving = list(ticks)
    queue = sorted([(ticks[person], person) for person in riders])
    for (tick, person), bike in zip(queue, bikes):
        leaving[person] = max(tick, bike)
    return leaving


def finish_of(road, starts, plan):
    """Return the greatest tick at which somebody comes to the end."""
    return max(ticks_of(road, starts, plan)[-1])


def waits_of(road, starts, plan):
    """Return the ticks that each person waits in all at stations."""
    last = ticks_of(road, starts, plan)[-1]
    # Whoever is not on a stage between start and last tick waits.
    return tuple([
        last[person] - start - moving_ticks(road, plan, person) for person, start in enumerate(starts)
    ])


def moving_ticks(road, plan, person):
    """Return the ticks that a person needs for all stages without any wait."""
    walk, ride, bikes = road
    rides = len([riders for riders in plan if person in riders])
    return ride * rides + walk * (len(bikes) - rides)
