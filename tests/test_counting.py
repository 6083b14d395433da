import inspect
import random
import unittest
from itertools import islice, permutations, product

from samples import A, B, C, all_plans, step_by_step

from roadbikes.bounds import LIMIT, MAX_START, SMALL_PLANS
from roadbikes.counting import count_good, count_plans, each_plan
from roadbikes.errors import TooLarge
from roadbikes.plans import finish_of, is_plan

LONG = (10, 4, (12,) * 12)


def small_cases():
    for stages, most_people in [(1, 4), (2, 3), (3, 3), (4, 2), (5, 1)]:
        for bikes in product((0, 1, 2), repeat=stages):
            for people in range(1, most_people + 1):
                yield (10, 4, bikes), people


def some_trips(many):
    """Trips with 100 to SMALL_PLANS plans, with equal and with different starts."""
    chance = random.Random(5)
    while many > 0:
        walk = chance.choice((10, 997, chance.randint(2, 1000)))
        bikes = tuple(chance.choice((0, 0, 0, 1, 1, 2, 3, 12)) for _ in range(chance.randint(1, 12)))
        road, people = (walk, chance.randint(1, walk - 1), bikes), chance.randint(1, 10)
        if 100 < count_plans(road, people) <= SMALL_PLANS:
            yield road, tuple(chance.choice((0, chance.randint(0, walk * len(bikes)))) for _ in range(people))
            many -= 1


class CountPlans(unittest.TestCase):
    def test_all_plans_of_small_roads(self):
        for road, people in small_cases():
            expected = len(all_plans(road, people))
            for _ in range(2):
                self.assertEqual(count_plans(road, people), expected, (road, people))

    def test_no_bicycles(self):
        self.assertEqual(count_plans((10, 4, (0,)), 1), 1)
        self.assertEqual(count_plans((10, 4, (0,) * 12), 10), 1)

    def test_bicycles_for_all(self):
        for people in range(1, 11):
            self.assertEqual(count_plans((10, 4, (12,)), people), 2 ** people)
            self.assertEqual(count_plans(LONG, people), 2 ** (12 * people))

    def test_one_bicycle(self):
        # It is left at one of the stations, and each rider before that is one of the people.
        for stages in range(1, 13):
            road = (10, 4, (1,) + (0,) * (stages - 1))
            for people in range(1, 11):
                self.assertEqual(count_plans(road, people), sum(people ** rides for rides in range(stages + 1)))

    def test_ten_people(self):
        self.assertEqual(count_plans((10, 4, (3,)), 10), 1 + 10 + 45 + 120)
        self.assertEqual(count_plans((10, 4, (0, 9)), 10), 1023)
        self.assertEqual(count_plans((10, 4, (10, 0)), 10), len(list(each_plan((10, 4, (10, 0)), 10))))


class CountGood(unittest.TestCase):
    def too_large(self, road, starts, end):
        with self.assertRaises(TooLarge) as caught:
            count_good(road, starts, end)
        self.assertEqual(caught.exception.bound, 5000)

    def test_all_plans_of_small_roads(self):
        for road in [A, B, C, (3, 1, (2,)), (5, 2, (0, 1, 0)), (7, 6, (1, 1, 1)), (9, 1, (2, 0, 0))]:
            for starts in [(3,), (0, 0), (0, 9), (9, 0), (0, 4, 8)]:
                finishes = [max(step_by_step(road, starts, plan)[0][-1]) for plan in all_plans(road, len(starts))]
                for end in [0, *sorted(set(finishes)), min(finishes) - 1, max(finishes) + 1, LIMIT]:
                    expected = len([finish for finish in finishes if finish <= end])
                    for _ in range(2):
                        self.assertEqual(count_good(road, starts, end), expected, (road, starts, end))

    def test_the_greatest_numbers_of_plans(self):
        for people, bikes, many in [(2, (12,) * 6, 4096), (2, (1, 2, 0, 0, 2, 2, 2), 4992), (1, (12,) * 12, 4096)]:
            road, starts = (10, 4, bikes), (0,) * people
            self.assertEqual(count_plans(road, people), many)
            self.assertEqual(count_good(road, starts, LIMIT), many)
            self.assertEqual(count_good(road, starts, 0), 0)

    def test_roads_that_were_slow(self):
        self.assertEqual(count_good((10, 4, (3, 0, 0, 0, 0)), (0, 0, 0), 10 ** 7), 2736)
        self.assertEqual(count_good((10, 4, (1, 0, 0, 0, 0, 0, 0, 0, 0, 0, 0)), (0, 0), 10 ** 7), 4095)

    def test_each_plan_of_larger_roads(self):
        for road, starts in some_trips(60):
            finishes = [finish_of(road, starts, plan) for plan in each_plan(road, len(starts))]
            ends = sorted(set(finishes))
            for end in {*ends[:2], *ends[-2:], *ends[::max(1, len(ends) // 6)], ends[0] - 1, ends[-1] + 1, 0, LIMIT}:
                expected = len([finish for finish in finishes if finish <= end])
                self.assertEqual(count_good(road, starts, end), expected, (road, starts, end))

    def test_the_order_of_the_people_does_not_matter(self):
        for end in range(8, 33):
            counts = {count_good(C, starts, end) for starts in permutations((0, 4, 9))}
            self.assertEqual(len(counts), 1, end)

    def test_too_large(self):
        self.assertEqual(SMALL_PLANS, 5000)
        self.assertEqual(count_plans((10, 4, (1, 0, 2, 1, 0, 0, 0, 1)), 2), 5005)
        for end in (0, 50, LIMIT):
            self.too_large((10, 4, (1, 0, 2, 1, 0, 0, 0, 1)), (0, 9), end)
            self.too_large((10, 4, (12,) * 7), (0, 0), end)
            self.too_large(LONG, (0,) * 10, end)
            self.too_large(LONG, (MAX_START,) * 10, end)


class EachPlan(unittest.TestCase):
    def test_a_generator(self):
        self.assertTrue(inspect.isgeneratorfunction(each_plan))
        self.assertTrue(inspect.isgenerator(each_plan(B, 1)))

    def test_all_plans_in_ascending_order(self):
        for road, people in small_cases():
            expected = sorted(all_plans(road, people))
            for _ in range(2):
                self.assertEqual(list(each_plan(road, people)), expected, (road, people))

    def test_order_of_riders(self):
        self.assertEqual(
            [plan[0] for plan in each_plan((10, 4, (3,)), 3)],
            [(), (0,), (0, 1), (0, 1, 2), (0, 2), (1,), (1, 2), (2,)])
        self.assertEqual(
            [plan[0] for plan in each_plan((10, 4, (2,)), 3)], [(), (0,), (0, 1), (0, 2), (1,), (1, 2), (2,)])

    def test_ten_people(self):
        plans = list(each_plan((10, 4, (4, 0)), 10))
        self.assertEqual(len(plans), count_plans((10, 4, (4, 0)), 10))
        for one, other in zip(plans, plans[1:]):
            self.assertLess(one, other)
        for plan in plans:
            self.assertTrue(is_plan((10, 4, (4, 0)), 10, plan))

    def test_no_bicycles(self):
        self.assertEqual(list(each_plan((10, 4, (0,) * 12), 10)), [((),) * 12])

    def test_the_first_plans_of_a_long_road(self):
        # All plans are 2 ** 120, so this ends only if the others are not computed.
        plans = list(islice(each_plan(LONG, 10), 3000))
        self.assertEqual(plans[0], ((),) * 12)
        self.assertEqual(plans[1], ((),) * 11 + ((0,),))
        self.assertEqual(plans[2], ((),) * 11 + ((0, 1),))
        self.assertEqual(plans[1023], ((),) * 11 + ((9,),))
        self.assertEqual(plans[1024], ((),) * 10 + ((0,), ()))
        self.assertEqual(len(plans), 3000)
        for one, other in zip(plans, plans[1:]):
            self.assertLess(one, other)
        for plan in plans:
            self.assertTrue(is_plan(LONG, 10, plan))

    def test_the_first_plans_with_few_bicycles(self):
        road = (10, 4, (1,) + (0,) * 11)
        self.assertEqual(
            list(islice(each_plan(road, 10), 4)),
            [((),) * 12, ((0,),) + ((),) * 11, ((0,), (0,)) + ((),) * 10, ((0,),) * 3 + ((),) * 9])

    def test_two_at_once(self):
        one, other = each_plan(A, 2), each_plan(A, 2)
        self.assertEqual(list(zip(one, other)), [(plan, plan) for plan in sorted(all_plans(A, 2))])


if __name__ == "__main__":
    unittest.main()
