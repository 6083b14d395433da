"""Roads of the document's examples, values of all kinds, and a slow second opinion on plans."""

from itertools import combinations, product

A = (10, 4, (1, 0, 0))
B = (10, 4, (1, 0))
C = (10, 4, (1, 0, 2))


def nested(levels, kind):
    value = 1
    for _ in range(levels):
        value = kind([value])
    return value


def other_values():
    """Values that are no number from 0 to 1000, no road and no plan."""
    return [
        None, True, False, -1, -(10 ** 39), 10 ** 39, "", "1", "road", "a\nb", "x" * 2000,
        [], [1], [1, 2, 3], [10, 4, [1]], [10, 4, (1,)], {}, {"walk": 10}, {"a": {"b": [None, (1,)]}},
        (None,), (True,), ("",), ((), (), (), ()), ("10", "4", ("1",)), ({}, {}, {}), ([], [], []),
        nested(20, tuple), nested(20, list), tuple(range(1000)), list(range(1000)), (10, 4), (10, 4, (1,), 1),
    ]


def replaced(value, at, part):
    """The tuple with another item at one place."""
    return value[:at] + (part,) + value[at + 1:]


def subsets(people):
    """Every ascending tuple of people."""
    sizes = range(people + 1)
    return [group for size in sizes for group in combinations(range(people), size)]


def all_plans(road, people):
    """Every plan, found by moving the bicycles of every choice of riders."""
    return [riders for riders in product(subsets(people), repeat=len(road[2])) if can_move(road, riders)]


def can_move(road, plan):
    at_station = list(road[2]) + [0]
    for stage, riders in enumerate(plan):
        at_station[stage] -= len(riders)
        at_station[stage + 1] += len(riders)
        if at_station[stage] < 0:
            return False
    return True


def step_by_step(road, starts, plan):
    """Go through all ticks one by one; return the ticks and the waits."""
    walk, ride, bikes = road
    end = len(bikes)
    free = list(bikes) + [0]
    queues = [[] for _ in range(end)]
    rows = [[None] * len(starts) for _ in range(end + 1)]
    waits = [0] * len(starts)
    coming = sorted((tick, person, 0, False) for person, tick in enumerate(starts))
    now = 0
    while coming or any(queues):
        for tick, person, station, by_bike in [event for event in coming if event[0] == now]:
            rows[station][person] = tick
            free[station] += by_bike
            if station < end and person in plan[station]:
                queues[station].append(person)
            elif station < end:
                coming.append((now + walk, person, station + 1, False))
        for station, queue in enumerate(queues):
            while queue and free[station]:
                free[station] -= 1
                coming.append((now + ride, queue.pop(0), station + 1, True))
            for person in queue:
                waits[person] += 1
        coming = sorted(event for event in coming if event[0] > now)
        now += 1
    return tuple(map(tuple, rows)), tuple(waits)
