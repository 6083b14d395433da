import copy
import random
import unittest
from itertools import permutations

from samples import A, B, C, all_plans, other_values, replaced, step_by_step, subsets

from roadbikes.bounds import LIMIT, MAX_BIKES, MAX_START
from roadbikes.counting import each_plan
from roadbikes.plans import finish_of, is_plan, waits_of
from roadbikes.roads import room_of
from roadbikes.rule import certificate_holds, find_certificate, least_finish, needs_of, rule_plan
from roadbikes.values import Party, Race

SMALL = [
    (road, starts)
    for road in [A, B, C, (3, 1, (0,)), (3, 1, (2,)), (5, 2, (0, 1, 0)), (7, 6, (1, 1, 1)), (9, 1, (2, 0, 0))]
    for starts in [(0,), (3,), (0, 0), (0, 9), (9, 0), (0, 0, 0), (0, 4, 8), (11, 5, 0), (6, 0, 6)]
]
SMALL += [((6, 4, (1, 0, 1, 0)), (0, 3)), ((6, 1, (0, 2, 0, 0)), (9, 0)), ((4, 1, (1, 1)), (0, 2, 5, 5))]


def slow_rule(road, starts):
    """The rule word by word, with the ticks of the tick-by-tick simulation, which may have waits."""
    stages = len(road[2])
    plan = ()
    for stage in range(stages):
        plan_so_far = plan + ((),) * (stages - stage)
        ticks = step_by_step(road, starts, plan_so_far)[0][stage]
        left = list(range(len(starts)))
        riders = []
        while left and len(riders) < sum(road[2][:stage + 1]):
            rider = min([person for person in left if ticks[person] == max(ticks[other] for other in left)])
            left.remove(rider)
            riders.append(rider)
        plan += (tuple(sorted(riders)),)
    return plan


def slow_need(road, start, end):
    """Try one ride more until the person is there; rides beyond the stages count too."""
    walk, ride, bikes = road
    rides = 0
    while start + walk * len(bikes) - (walk - ride) * rides > end:
        rides += 1
    return rides


def some_trips(many, stages, people, late):
    chance = random.Random(1)
    for _ in range(many):
        walk = chance.randint(2, 30)
        bikes = tuple(chance.choice((0, 0, 0, 1, 2)) for _ in range(chance.randint(1, stages)))
        starts = tuple(chance.randint(0, late) for _ in range(chance.randint(1, people)))
        yield (walk, chance.randint(1, walk - 1), bikes), starts


class Rule(unittest.TestCase):
    def test_no_bicycles(self):
        self.assertEqual(rule_plan((10, 4, (0, 0)), (3, 7)), ((), ()))
        self.assertEqual(least_finish((10, 4, (0, 0)), (3, 7)), 27)

    def test_bicycles_for_all(self):
        road = (10, 4, (12, 0, 12))
        self.assertEqual(rule_plan(road, (5, 0, 5)), ((0, 1, 2),) * 3)
        self.assertEqual(least_finish(road, (5, 0, 5)), 17)
        self.assertEqual(rule_plan((10, 4, (1, 12)), (5, 0, 5)), ((0,), (0, 1, 2)))

    def test_the_latest_ride(self):
        self.assertEqual(rule_plan((10, 4, (1,)), (0, 3, 2)), ((1,),))
        self.assertEqual(rule_plan((10, 4, (2,)), (0, 3, 2)), ((1, 2),))
        # Person 2 comes to station 1 at 8, the others at 13 and 12.
        self.assertEqual(rule_plan((10, 4, (1, 0)), (3, 2, 4)), ((2,), (0,)))

    def test_equal_ticks_by_number(self):
        self.assertEqual(rule_plan((10, 4, (1,)), (5, 5, 5)), ((0,),))
        self.assertEqual(rule_plan((10, 4, (2,)), (5, 5, 5)), ((0, 1),))
        self.assertEqual(rule_plan((10, 4, (2,)), (5, 9, 5)), ((0, 1),))
        # Persons 0 and 2 both come to station 1 at 14.
        self.assertEqual(rule_plan((10, 4, (1, 0)), (4, 8, 4)), ((1,), (0,)))

    def test_latest_starts_and_longest_road(self):
        road = (1000, 999, (0,) * 11 + (1,))
        self.assertEqual(rule_plan(road, (MAX_START, MAX_START)), ((),) * 11 + ((0,),))
        self.assertEqual(least_finish(road, (MAX_START, MAX_START)), MAX_START + 12000)
        self.assertEqual(least_finish(road, (MAX_START,)), MAX_START + 11999)

    def test_the_words_of_the_rule(self):
        for road, starts in [*SMALL, *some_trips(60, 6, 5, 25)]:
            expected = slow_rule(road, starts)
            for _ in range(2):
                self.assertEqual(rule_plan(road, starts), expected, (road, starts))
                self.assertEqual(least_finish(road, starts), finish_of(road, starts, expected), (road, starts))

    def test_nobody_waits(self):
        for road, starts in [*SMALL, *some_trips(300, 12, 10, 200)]:
            plan = rule_plan(road, starts)
            self.assertTrue(is_plan(road, len(starts), plan), (road, starts))
            self.assertEqual(waits_of(road, starts, plan), (0,) * len(starts), (road, starts))
            self.assertEqual(finish_of(road, starts, plan), least_finish(road, starts))

    def test_no_plan_is_earlier(self):
        for road, starts in SMALL:
            finishes = [max(step_by_step(road, starts, plan)[0][-1]) for plan in all_plans(road, len(starts))]
            self.assertEqual(least_finish(road, starts), min(finishes), (road, starts))

    def test_the_order_of_the_people_does_not_matter(self):
        for road, starts in [*SMALL, *some_trips(30, 12, 5, 40)]:
            for other in permutations(starts):
                self.assertEqual(least_finish(road, other), least_finish(road, starts), (road, other))

    def test_a_later_start(self):
        for road, starts in [*SMALL, *some_trips(60, 12, 10, 60)]:
            before = least_finish(road, starts)
            for person, start in enumerate(starts):
                for later in (1, 2, 3, 7, 20, 1000):
                    after = least_finish(road, replaced(starts, person, start + later))
                    self.assertLessEqual(before, after, (road, starts, person, later))
                    self.assertLessEqual(after, before + later, (road, starts, person, later))

    def test_a_further_bicycle(self):
        for road, starts in [*SMALL, *some_trips(60, 12, 10, 60)]:
            walk, ride, bikes = road
            for station, many in enumerate(bikes):
                more = (walk, ride, replaced(bikes, station, min(many + 1, MAX_BIKES)))
                self.assertLessEqual(least_finish(more, starts), least_finish(road, starts), (road, starts, station))

    def test_one_person_less(self):
        for road, starts in [*SMALL, *some_trips(60, 12, 10, 60)]:
            for person in range(len(starts) if len(starts) > 1 else 0):
                fewer = starts[:person] + starts[person + 1:]
                self.assertLessEqual(least_finish(road, fewer), least_finish(road, starts), (road, starts, person))


class Needs(unittest.TestCase):
    def test_rides_one_by_one(self):
        for road, starts in SMALL:
            for end in range(60):
                expected = tuple(slow_need(road, start, end) for start in starts)
                for _ in range(2):
                    self.assertEqual(needs_of(road, starts, end), expected, (road, starts, end))

    def test_no_need(self):
        self.assertEqual(needs_of(B, (0, 9), 29), (0, 0))
        self.assertEqual(needs_of(B, (0, 9), 28), (0, 1))
        self.assertEqual(needs_of(B, (0, MAX_START), LIMIT), (0, 0))

    def test_more_than_the_stages(self):
        self.assertEqual(needs_of((3, 1, (0,)), (5, 5), 5), (2, 2))
        self.assertEqual(needs_of((1000, 999, (0,)), (MAX_START,), 0), (1001000,))
        self.assertEqual(needs_of((1000, 1, (0,) * 12), (MAX_START, 0), 0), (1014, 13))


class Certificates(unittest.TestCase):
    def ends(self, road, starts):
        least = least_finish(road, starts)
        return sorted({0, 1, least // 2, max(0, least - 1), least, least + 1, least + 5, LIMIT})

    def test_either_a_plan_or_people(self):
        for road, starts in SMALL:
            finishes = [max(step_by_step(road, starts, plan)[0][-1]) for plan in all_plans(road, len(starts))]
            for end in self.ends(road, starts):
                needs = [slow_need(road, start, end) for start in starts]
                groups = [
                    people for people in subsets(len(starts))
                    if sum(needs[person] for person in people) > room_of(road, len(people))]
                self.assertNotEqual(min(finishes) <= end, bool(groups), (road, starts, end))
                word, told = find_certificate(road, starts, end)
                if groups:
                    self.assertEqual(word, "people")
                    self.assertIn(told, groups)
                else:
                    self.assertEqual(word, "plan")
                    self.assertLessEqual(max(step_by_step(road, starts, told)[0][-1]), end)

    def test_holds_exactly_for_plans_in_time(self):
        for road, starts in SMALL[::3]:
            for end in self.ends(road, starts):
                for plan in all_plans(road, len(starts)):
                    expected = max(step_by_step(road, starts, plan)[0][-1]) <= end
                    self.assertIs(certificate_holds(road, starts, end, ("plan", plan)), expected)

    def test_holds_exactly_for_people_who_exclude_the_end(self):
        for road, starts in SMALL:
            for end in self.ends(road, starts):
                needs = [slow_need(road, start, end) for start in starts]
                for people in subsets(len(starts)):
                    expected = sum(needs[person] for person in people) > room_of(road, len(people))
                    self.assertIs(certificate_holds(road, starts, end, ("people", people)), expected)

    def test_what_is_found_holds_and_equal_calls_are_equal(self):
        for road, starts in [*SMALL, *some_trips(200, 12, 10, 100)]:
            for end in self.ends(road, starts):
                found = find_certificate(road, starts, end)
                self.assertEqual(found, find_certificate(road, starts, end))
                self.assertEqual(found[0], "plan" if least_finish(road, starts) <= end else "people")
                for _ in range(2):
                    self.assertIs(certificate_holds(road, starts, end, found), True, (road, starts, end))

    def test_one_person_alone(self):
        self.assertEqual(find_certificate((3, 1, (0,)), (5, 0), 7), ("people", (0,)))
        self.assertEqual(find_certificate((3, 1, (1,)), (0, 9), 9), ("people", (1,)))
        self.assertEqual(find_certificate((1000, 999, (1,)), (MAX_START,), 0), ("people", (0,)))

    def test_plan_with_waits(self):
        plan = ((1,), (0,))
        self.assertIs(certificate_holds(B, (0, 9), 22, ("plan", plan)), False)
        self.assertIs(certificate_holds(B, (0, 9), 23, ("plan", plan)), True)


class AnyCertificate(unittest.TestCase):
    def refuses(self, value, road=B, starts=(0, 9), ends=(0, 19, 20, LIMIT)):
        before = copy.deepcopy(value)
        for end in ends:
            for _ in range(2):
                self.assertIs(certificate_holds(road, starts, end, value), False, (end, value))
        self.assertEqual(repr(value), repr(before))

    def test_other_values(self):
        for value in other_values():
            self.refuses(value)
            self.refuses((value, ((1,), (1,))))
            self.refuses((value, (0, 1)))
            self.refuses(("plan", value))
            self.refuses(("people", value))
            self.refuses(("plan", ((1,), value)))
            self.refuses(("plan", ((value,), (1,))))
            self.refuses(("people", (0, value)))
            self.refuses(("people", (value, 1)))
            self.refuses(("people", (0, 1), value))
            self.refuses(("plan", ((1,), (1,)), value))

    def test_lists_and_dicts(self):
        for value in [
            ["people", (0, 1)], ("people", [0, 1]), ["plan", ((1,), (1,))], ("plan", [(1,), (1,)]),
            ("plan", ([1], (1,))), {"people": (0, 1)}, {"plan": [[1], [1]]}, ("people", {"0": 1}),
        ]:
            self.refuses(value)

    def test_words(self):
        for word in ["Plan", "PLAN", "plans", "pla", "", " plan", "plan\n", "People", "person", "peoples", 0, None, ()]:
            self.refuses((word, ((1,), (1,))))
            self.refuses((word, (0, 1)))

    def test_the_other_word(self):
        self.refuses(("people", ((1,), (1,))))
        self.refuses(("plan", (0, 1)))
        # The needs of nobody are together 0, which is not greater than the room for nobody.
        self.refuses(("people", ()))
        self.refuses(("plan", ()))

    def test_number_of_items(self):
        for value in [(), ("plan",), ("people",), ("people", (0, 1), ()), ("people", 0, 1), (("people", (0, 1)),)]:
            self.refuses(value)

    def test_people_who_are_not_people(self):
        for people in [(1, 0), (0, 0), (0, 1, 1), (0, 1, 2), (2,), (-1, 0, 1), (-1,), (10 ** 39,), ("0", "1")]:
            self.refuses(("people", people))

    def test_bools_are_no_people_also_behind_equal_calls(self):
        for right, wrong in [
            ((0, 1), (False, 1)), ((0, 1), (0, True)), ((0, 1), (False, True)),
        ]:
            self.assertIs(certificate_holds(B, (0, 9), 0, ("people", right)), True)
            self.refuses(("people", wrong))
            self.assertIs(certificate_holds(B, (0, 9), 0, ("people", right)), True)
        self.assertIs(certificate_holds(B, (0, 9), 20, ("plan", ((1,), (1,)))), True)
        self.refuses(("plan", ((True,), (1,))))
        self.refuses(("plan", ((1,), (True,))))
        self.refuses(("plan", ((False,), ())))

    def test_plans_for_others(self):
        self.refuses(("plan", ((1,), (1,), ())))
        self.refuses(("plan", ((2,), (1,))))
        self.refuses(("plan", ((), (1,))))
        self.refuses(("plan", ((0, 1), ())))

    def test_results_with_replaced_parts(self):
        party = Party((0, 9))
        for value in [party, Race(B), (party, party), ("plan", party), ("people", party), (party, (0, 1))]:
            for _ in range(2):
                self.assertIs(certificate_holds(B, (0, 9), 0, value), False)
        for plan in each_plan(B, 2):
            self.refuses(("people", plan))
            self.refuses(plan)
        for end in (19, 20):
            found = find_certificate(B, (0, 9), end)
            for part in other_values():
                self.refuses(replaced(found, 0, part))
                self.refuses(replaced(found, 1, part))


if __name__ == "__main__":
    unittest.main()
