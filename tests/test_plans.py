import copy
import unittest
from itertools import product

from samples import A, B, C, all_plans, other_values, replaced, step_by_step, subsets

from roadbikes.bounds import MAX_PEOPLE
from roadbikes.plans import finish_of, is_plan, ticks_of, waits_of

SMALL_ROADS = [
    A, B, C, (3, 1, (0,)), (3, 1, (2,)), (5, 2, (0, 1, 0)), (7, 6, (1, 1, 1)), (9, 1, (2, 0, 0)), (4, 3, (0, 0)),
]


class IsPlan(unittest.TestCase):
    def check(self, road, people, value, expected):
        before = copy.deepcopy(value)
        for _ in range(2):
            self.assertIs(is_plan(road, people, value), expected, (road, people, value))
        self.assertEqual(repr(value), repr(before))

    def test_example(self):
        self.assertEqual(
            [is_plan(A, 2, ((0,), (1,), (0,))), is_plan(A, 2, ((), (1,), ())), is_plan(A, 2, ((0,), (2,), ()))],
            [True, False, False])

    def test_nobody_riding(self):
        for people in range(1, MAX_PEOPLE + 1):
            self.check(A, people, ((), (), ()), True)
            self.check((10, 4, (0,) * 12), people, ((),) * 12, True)

    def test_all_choices_of_riders(self):
        for road in SMALL_ROADS:
            for people in (1, 2, 3):
                plans = set(all_plans(road, people))
                for value in product(subsets(people), repeat=len(road[2])):
                    self.check(road, people, value, value in plans)

    def test_more_riders_than_bicycles_on_the_first_stage(self):
        self.check((10, 4, (2, 12)), 3, ((0, 1), ()), True)
        self.check((10, 4, (2, 12)), 3, ((0, 1, 2), ()), False)
        self.check((10, 4, (0, 12)), 3, ((0,), ()), False)

    def test_more_riders_than_bicycles_on_a_later_stage(self):
        self.check(C, 5, ((0,), (1,), (2, 3, 4)), True)
        self.check(C, 5, ((0,), (1,), (1, 2, 3, 4)), False)
        self.check(C, 5, ((0,), (1, 2), ()), False)

    def test_bicycles_left_behind(self):
        self.check(C, 5, ((), (0,), ()), False)
        self.check(C, 5, ((0,), (), (1, 2)), True)
        self.check(C, 5, ((0,), (), (1, 2, 3)), False)
        self.check((10, 4, (3, 0, 0)), 3, ((0, 1, 2), (1,), (0, 2)), False)

    def test_many_people_and_stages(self):
        everybody = tuple(range(MAX_PEOPLE))
        self.check((10, 4, (12,) * 12), MAX_PEOPLE, (everybody,) * 12, True)
        self.check((10, 4, (10,) + (0,) * 11), MAX_PEOPLE, (everybody,) * 12, True)
        self.check((10, 4, (9, 1) + (0,) * 10), MAX_PEOPLE, (everybody,) * 12, False)
        self.check((10, 4, (12,) * 12), MAX_PEOPLE, (everybody + (10,),) * 12, False)

    def test_number_of_stages(self):
        for value in [(), ((0,),), ((0,), (0,)), ((0,), (0,), (0,), ()), ((),) * 12]:
            self.check(A, 1, value, False)
        self.check(A, 1, ((0,), (0,), (0,)), True)

    def test_riders_that_are_not_riders(self):
        road = (10, 4, (12, 12))
        for riders in [(1, 0), (0, 0), (0, 1, 1), (0, 2, 1), (3,), (0, 3), (-1,), (-1, 0), (10 ** 39,)]:
            self.check(road, 3, (riders, ()), False)
            self.check(road, 3, ((0, 1), riders), False)

    def test_lists(self):
        self.check(B, 2, [(0,), (1,)], False)
        self.check(B, 2, ([0], (1,)), False)
        self.check(B, 2, ((0,), [1]), False)
        self.check(B, 2, ((0,), []), False)
        self.check(B, 2, (((0,),), ()), False)

    def test_bools_are_no_people_also_behind_equal_calls(self):
        self.check(B, 2, ((0,), (1,)), True)
        self.check(B, 2, ((False,), (1,)), False)
        self.check(B, 2, ((0,), (True,)), False)
        self.check(B, 2, ((0,), (1,)), True)
        self.check((10, 4, (2, 0)), 2, ((0, True), ()), False)

    def test_other_values(self):
        for value in other_values():
            self.check(B, 2, value, False)
            self.check((10, 4, (12,) * 3), 10, value, False)
            self.check((10, 4, (12,)), 10, value, False)

    def test_plans_with_a_replaced_part(self):
        for part in other_values():
            self.check(B, 2, (part, ()), False)
            self.check(B, 2, ((0,), part), False)
            self.check(B, 2, ((0,), (part,)), False)
            self.check(B, 2, ((0,), (1,), part), False)
            self.check((10, 4, (12, 0)), 5, (replaced((0, 1, 2), 1, part), ()), False)


class Ticks(unittest.TestCase):
    def check(self, road, starts, plan):
        ticks, waits = step_by_step(road, starts, plan)
        for _ in range(2):
            self.assertEqual(ticks_of(road, starts, plan), ticks, (road, starts, plan))
            self.assertEqual(waits_of(road, starts, plan), waits, (road, starts, plan))
            self.assertEqual(finish_of(road, starts, plan), max(ticks[-1]), (road, starts, plan))

    def test_examples(self):
        self.assertEqual(
            [ticks_of(A, (0, 0), ((0,), (1,), (0,))), ticks_of(B, (0, 9), ((1,), (0,)))],
            [((0, 0), (4, 10), (14, 14), (18, 24)), ((0, 9), (10, 13), (17, 23))])
        self.assertEqual(
            [finish_of(B, (0, 9), ((1,), (0,))), waits_of(B, (0, 9), ((1,), (0,))),
             finish_of(B, (0, 9), ((1,), (1,)))],
            [23, (3, 0), 20])

    def test_nobody_riding(self):
        plan = ((), (), ())
        self.assertEqual(ticks_of(A, (0, 7), plan), ((0, 7), (10, 17), (20, 27), (30, 37)))
        self.assertEqual(waits_of(A, (0, 7), plan), (0, 0))
        self.assertEqual(finish_of(A, (7, 0), plan), 37)

    def test_latest_starts(self):
        self.assertEqual(ticks_of((1000, 999, (1,)), (10 ** 6, 0), ((0,),)), ((10 ** 6, 0), (1000999, 1000)))
        self.assertEqual(waits_of((1000, 999, (1, 0)), (10 ** 6, 0), ((0,), (1,))), (0, 999999))

    def test_equal_ticks_by_number(self):
        # Persons 1 and 2 come to station 1 together; only the smaller number finds the bicycle there.
        road, plan = (6, 2, (1, 1)), ((0,), (1, 2))
        self.assertEqual(ticks_of(road, (30, 0, 0), plan), ((30, 0, 0), (32, 6, 6), (38, 8, 34)))
        self.assertEqual(waits_of(road, (30, 0, 0), plan), (0, 0, 26))

    def test_earlier_rider_before_smaller_number(self):
        road, plan = (6, 2, (1, 1)), ((0,), (1, 2))
        self.assertEqual(ticks_of(road, (30, 5, 0), plan), ((30, 5, 0), (32, 11, 6), (38, 34, 8)))
        self.assertEqual(waits_of(road, (30, 5, 0), plan), (0, 21, 0))

    def test_earlier_bicycle_first(self):
        # The bicycles come to station 1 at 12 with person 0 and at 3 with person 1.
        road, plan = (6, 2, (2, 0)), ((0, 1), (2, 3))
        self.assertEqual(ticks_of(road, (10, 1, 0, 1), plan)[2], (18, 9, 8, 14))
        self.assertEqual(waits_of(road, (10, 1, 0, 1), plan), (0, 0, 0, 5))

    def test_a_bicycle_that_stands_there_is_there_from_tick_0(self):
        self.assertEqual(ticks_of((6, 2, (1, 1)), (9, 0), ((0,), (1,))), ((9, 0), (11, 6), (17, 8)))

    def test_a_rider_waits_for_a_bicycle(self):
        self.assertEqual(ticks_of((6, 2, (1, 0)), (9, 0), ((0,), (1,))), ((9, 0), (11, 6), (17, 13)))
        self.assertEqual(waits_of((6, 2, (1, 0)), (9, 0), ((0,), (1,))), (0, 5))

    def test_who_comes_by_bicycle_leaves_it_to_an_earlier_rider(self):
        # Person 0 comes to station 1 at 7, but person 1 waits there since 6; the next bicycle comes at 32.
        road, starts, plan = (6, 2, (2, 0)), (5, 0, 30), ((0, 2), (0, 1))
        self.assertEqual(ticks_of(road, starts, plan), ((5, 0, 30), (7, 6, 32), (34, 9, 38)))
        self.assertEqual(waits_of(road, starts, plan), (25, 1, 0))

    def test_several_waits_add_up(self):
        road, plan = (6, 2, (1, 0, 0)), ((1,), (0,), (2,))
        self.assertEqual(ticks_of(road, (0, 9, 0), plan), ((0, 9, 0), (6, 11, 6), (13, 17, 12), (19, 23, 15)))
        self.assertEqual(waits_of(road, (0, 9, 0), plan), (5, 0, 1))
        road, plan = (6, 1, (1, 0, 1, 0)), ((1,), (0,), (1, 2), (0, 2))
        self.check(road, (0, 20, 0), plan)

    def test_all_plans_of_small_roads(self):
        for road in SMALL_ROADS:
            for starts in [(0,), (3,), (0, 0), (0, 9), (9, 0), (2, 5)]:
                for plan in all_plans(road, len(starts)):
                    self.check(road, starts, plan)

    def test_plans_of_three_people(self):
        for road in [A, C, (7, 6, (1, 1, 1)), (5, 2, (2, 0))]:
            for starts in [(0, 0, 0), (0, 4, 8), (11, 5, 0), (6, 0, 6)]:
                for plan in all_plans(road, 3):
                    self.check(road, starts, plan)

    def test_long_roads_with_ten_people(self):
        starts = (0, 0, 5, 5, 40, 3, 17, 60, 0, 90)
        road = (9, 2, (3, 0, 2, 0, 0, 1, 0, 4, 0, 0, 2, 0))
        for shift in range(10):
            plan = tuple(
                tuple(sorted({(shift + 3 * stage + step) % 10 for step in range(3)})) for stage in range(12))
            self.assertTrue(is_plan(road, 10, plan))
            self.check(road, starts, plan)


if __name__ == "__main__":
    unittest.main()
