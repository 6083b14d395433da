"""The rule, the least finish, and certificates that show whether an end can be kept."""

from roadbikes.plans import finish_of, is_plan, is_riders
from roadbikes.roads import counts_of, room_of


def rule_plan(road, starts):
    """Return the plan in which on each stage the people who come latest ride."""
    walk, ride = road[:2]
    ticks = starts
    plan = []
    for count in counts_of(road):
        riders = greatest(ticks, count)
        # Nobody waits under the rule: the riders of a stage come no earlier than its bicycles.
        ticks = [tick + (ride if person in riders else walk) for person, tick in enumerate(ticks)]
        plan.append(riders)
    return tuple(plan)


def greatest(numbers, many):
    """Return the ascending tuple of that many people, or of all, whose numbers are the greatest.

    Of people with equal numbers those who are counted first are taken.
    """
    order = sorted([(-number, person) for person, number in enumerate(numbers)])
    return tuple(sorted([person for number, person in order[:many]]))


def least_finish(road, starts):
    """Return the finish of the plan of the rule, which no possible plan undercuts."""
    return finish_of(road, starts, rule_plan(road, starts))


def needs_of(road, starts, end):
    """Return for each person the least number of rides with which they are at the end in time."""
    walk, ride, bikes = road
    on_foot = walk * len(bikes)
    # Rounded down and negated twice is rounded up.
    return tuple([max(0, -((end - start - on_foot) // (walk - ride))) for start in starts])


def find_certificate(road, starts, end):
    """Return a plan that keeps the end, or people who exclude it, with the word for it."""
    plan = rule_plan(road, starts)
    if finish_of(road, starts, plan) <= end:
        return ("plan", plan)
    return ("people", excluding_people(road, needs_of(road, starts, end)))


def excluding_people(road, needs):
    """Return people with these needs who exclude an end that no plan keeps."""
    # If so many people exclude the end, then also those of that number who need most.
    groups = [greatest(needs, many) for many in range(1, len(needs) + 1)]
    return [people for people in groups if exclude(road, needs, people)][0]


def exclude(road, needs, people):
    """Return whether the needs of these people are together greater than the room for them."""
    return sum([needs[person] for person in people]) > room_of(road, len(people))


def certificate_holds(road, starts, end, value):
    """Return whether any value is a certificate for the road, the starts and the end."""
    if not isinstance(value, tuple) or len(value) != 2:
        return False
    word, told = value
    if word == "plan":
        return is_plan(road, len(starts), told) and finish_of(road, starts, told) <= end
    if word == "people":
        return is_riders(told, len(starts)) and exclude(road, needs_of(road, starts, end), told)
    return False
