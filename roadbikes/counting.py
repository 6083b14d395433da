"""How many plans there are, how many keep an end, and the plans one after another."""

from roadbikes.bounds import SMALL_PLANS
from roadbikes.errors import TooLarge


def count_plans(road, people):
    """Return the number of plans for the road and so many people."""
    return ways_on(road, people)[0][0]


def ways_on(road, people):
    """Return for each station a list: in how many ways plans go on there, by how many come with a bicycle."""
    groups = subset_counts(people)
    rows = [[1] * (people + 1)]
    for standing in road[2][::-1]:
        ways = [groups[many] * rows[-1][many] for many in range(people + 1)]
        rows.append([sum(ways[:brought + standing + 1]) for brought in range(people + 1)])
    return rows[::-1]


def subset_counts(people):
    """Return for each number from 0 to people how many groups of that many people there are."""
    ways = [1]
    for many in range(people):
        ways.append(ways[-1] * (people - many) // (many + 1))
    return ways


def count_good(road, starts, end):
    """Return the number of plans whose finish is at most the end."""
    ways = ways_on(road, len(starts))
    if ways[0][0] > SMALL_PLANS:
        raise TooLarge(SMALL_PLANS)
    groups = groups_up_to(len(starts), min(len(starts), sum(road[2])))
    # How a plan can go on depends only on the ticks at which people and bicycles come to a station, not on who
    # comes when. So the keys are these ticks, sorted, and the values count the beginnings of plans with them.
    arrivals = {(tuple(sorted(starts)), ()): 1}
    good = 0
    for station, row in enumerate(ways):
        undecided = {}
        for (ticks, brought), many in arrivals.items():
            if is_surely_good(road, station, ticks, end):
                good += many * row[len(brought)]
            elif is_maybe_good(road, station, ticks, end):
                undecided[(ticks, brought)] = many
        arrivals = next_arrivals(road, station, undecided, groups, end)
    return good


def groups_up_to(people, most):
    """Return for each number from 0 to most a list of all ascending tuples of at most that many people."""
    newest = [()]
    rows = [newest]
    for size in range(most):
        newest = [group + (person,) for group in newest for person in range(group[-1] + 1 if group else 0, people)]
        rows.append(rows[-1] + newest)
    return rows


def is_surely_good(road, station, ticks, end):
    """Return whether all keep the end who come to a station at these sorted ticks, whoever rides from there on."""
    # Nobody waits for a bicycle longer than until the last person comes, so they are as late as the last on foot.
    return ticks[-1] + road[0] * (len(road[2]) - station) <= end


def is_maybe_good(road, station, ticks, end):
    """Return whether the last one who comes to a station at these sorted ticks keeps the end by riding on."""
    return ticks[-1] + road[1] * (len(road[2]) - station) <= end


def next_arrivals(road, station, arrivals, groups, end):
    """Return the arrivals at the next station, with the number of beginnings of plans that lead to each."""
    walk, ride, bikes = road
    # Who comes later than this must ride now, as they come too late even if they ride on all other stages.
    latest = end - walk - ride * (len(bikes) - station - 1)
    following = {}
    for (ticks, brought), many in arrivals.items():
        present = (0,) * bikes[station] + brought
        needed = tuple([person for person, tick in enumerate(ticks) if tick > latest])
        for riders in groups[min(len(ticks), len(present))]:
            # Those who come last are the last ones of the people, whose ticks are sorted.
            if riders[len(riders) - len(needed):] == needed:
                arrival = next_arrival(road, ticks, present, riders)
                following[arrival] = following.get(arrival, 0) + many
    return following


def next_arrival(road, ticks, bikes, riders):
    """Return the sorted ticks at which people and bicycles come behind a stage.

    ticks and bikes are the sorted ticks at which they come before it, and riders are indexes of ticks.
    """
    walk, ride = road[:2]
    riding = [max(ticks[person], bike) + ride for person, bike in zip(riders, bikes)]
    walking = [tick + walk for person, tick in enumerate(ticks) if person not in riders]
    return (tuple(sorted(riding + walking)), tuple(riding))


def each_plan(road, people):
    """Yield the plans for the road and so many people in ascending order."""
    plan = ((),) * len(road[2])
    while plan is not None:
        yield plan
        plan = following_plan(road, people, plan)


def following_plan(road, people, plan):
    """Return the plan that follows in ascending order, or None behind the last one."""
    bikes = road[2]
    for stage in reversed(range(len(bikes))):
        brought = len(plan[stage - 1]) if stage > 0 else 0
        riders = following_riders(people, plan[stage], brought + bikes[stage])
        if riders is not None:
            return plan[:stage] + (riders,) + ((),) * (len(bikes) - stage - 1)
    return None


def following_riders(people, riders, most):
    """Return the riders, at most so many, that follow in ascending order, or None behind the last ones."""
    further = riders[-1] + 1 if riders else 0
    if further < people and len(riders) < most:
        return riders + (further,)
    # Nobody is behind the last of the people, so the rider before them changes.
    changing = riders if further < people else riders[:-1]
    if not changing:
        return None
    return changing[:-1] + (changing[-1] + 1,)
