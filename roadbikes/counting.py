"""How many plans there are, how many keep an end, and the plans one after another."""

from roadbikes.bounds import SMALL_PLANS
from roadbikes.errors import TooLarge
from roadbikes.plans import finish_of


def count_plans(road, people):
    """Return the number of plans for the road and so many people."""
    ways = subset_counts(people)
    # totals[many] is the number of plans of the stages so far with that many riders on the last one.
    totals = [1] + [0] * people
    for standing in road[2]:
        totals = [ways[many] * sum(totals[max(0, many - standing):]) for many in range(people + 1)]
    return sum(totals)


def subset_counts(people):
    """Return for each number from 0 to people how many groups of that many people there are."""
    ways = [1]
    for many in range(people):
        ways.append(ways[-1] * (people - many) // (many + 1))
    return ways


def count_good(road, starts, end):
    """Return the number of plans whose finish is at most the end."""
    people = len(starts)
    if count_plans(road, people) > SMALL_PLANS:
        raise TooLarge(SMALL_PLANS)
    good = 0
    for plan in each_plan(road, people):
        if finish_of(road, starts, plan) <= end:
            good += 1
    return good


def each_plan(road, people):
    """Yield the plans for the road and so many people in ascending order."""
    plan = ((),) * len(road[2])
    while plan is not None:
        yield plan
        plan = following_plan(road, people, plan)


def following_plan(road, people, plan):
    """Return the plan that follows in ascending order, or None behind the last one."""
    bikes = road[2]
    for stage in reversed(range(len(bikes))):
        brought = len(plan[stage - 1]) if stage > 0 else 0
        riders = following_riders(people, plan[stage], brought + bikes[stage])
        if riders is not None:
            return plan[:stage] + (riders,) + ((),) * (len(bikes) - stage - 1)
    return None


def following_riders(people, riders, most):
    """Return the riders, at most so many, that follow in ascending order, or None behind the last ones."""
    further = riders[-1] + 1 if riders else 0
    if further < people and len(riders) < most:
        return riders + (further,)
    # Nobody is behind the last of the people, so the rider before them changes.
    changing = riders if further < people else riders[:-1]
    if not changing:
        return None
    return changing[:-1] + (changing[-1] + 1,)
