import random
import unittest

from samples import A, B, C, all_plans, replaced, subsets

from roadbikes.bounds import LIMIT, MAX_START
from roadbikes.more import can_walk, fewest_bikes, latest_start
from roadbikes.plans import finish_of
from roadbikes.roads import room_of
from roadbikes.rule import least_finish, needs_of

ROADS = [A, B, C, (3, 1, (0,)), (3, 1, (2,)), (5, 2, (0, 1, 0)), (7, 6, (1, 1, 1)), (9, 1, (2, 0, 0)), (4, 1, (0, 0, 0))]
STARTS = [(0,), (3,), (0, 0), (0, 9), (9, 0), (2, 7)]
SMALL = [(road, starts) for road in ROADS for starts in STARTS]
SMALL += [((5, 2, (1, 0)), (0, 4, 8)), ((5, 2, (1, 0)), (3, 3, 3)), ((5, 2, (0, 0)), (6, 0, 1)), ((4, 3, (1, 1)), (9, 2, 2))]


def best(road, starts, plans):
    """The earliest finish of these plans, or None if there is none."""
    return min((finish_of(road, starts, plan) for plan in plans), default=None)


def with_more(road, station, many):
    return (*road[:2], replaced(road[2], station, road[2][station] + many))


def interesting_ends(road, starts):
    latest = max(starts) + road[0] * len(road[2])
    return [0, 1, *range(min(starts), latest + 3), LIMIT]


def some_trips(many):
    chance = random.Random(7)
    for _ in range(many):
        walk = chance.randint(2, 30)
        bikes = tuple(chance.choice((0, 0, 0, 1, 2)) for _ in range(chance.randint(1, 12)))
        starts = tuple(chance.randint(0, 80) for _ in range(chance.randint(1, 10)))
        road = (walk, chance.randint(1, walk - 1), bikes)
        yield road, starts, least_finish(road, starts) + chance.randint(-20, 30)


class FewestBikes(unittest.TestCase):
    def test_all_plans_of_small_roads(self):
        for road, starts in SMALL:
            for station in range(len(road[2])):
                # More than one bicycle for each of the people changes nothing.
                finishes = []
                for many in range(len(starts) + 2):
                    more = with_more(road, station, many)
                    finishes.append(best(more, starts, all_plans(more, len(starts))))
                for end in interesting_ends(road, starts):
                    expected = next((many for many, finish in enumerate(finishes) if finish <= end), None)
                    for _ in range(2):
                        self.assertEqual(
                            repr(fewest_bikes(road, starts, end, station)), repr(expected), (road, starts, end, station))

    def test_none_is_needed_at_the_least_finish(self):
        for road, starts, _ in some_trips(40):
            for station in range(len(road[2])):
                self.assertEqual(fewest_bikes(road, starts, least_finish(road, starts), station), 0)
                self.assertEqual(fewest_bikes(road, starts, LIMIT, station), 0)

    def test_one_less_is_not_enough(self):
        for road, starts, end in some_trips(80):
            for station in range(len(road[2])):
                many = fewest_bikes(road, starts, max(0, end), station)
                if many is None:
                    self.assertGreater(least_finish(with_more(road, station, 50), starts), end)
                else:
                    self.assertLessEqual(least_finish(with_more(road, station, many), starts), end)
                    if many > 0:
                        self.assertGreater(least_finish(with_more(road, station, many - 1), starts), end)

    def test_ten_people(self):
        for present in range(10):
            self.assertEqual(fewest_bikes((10, 4, (present,)), (0,) * 10, 4, 0), 10 - present)
            self.assertEqual(fewest_bikes((10, 4, (present,)), (0,) * 10, 3, 0), None)
        self.assertEqual(fewest_bikes((10, 4, (0, 9)), (0,) * 10, 14, 1), 1)
        self.assertEqual(fewest_bikes((10, 4, (0, 9)), (0,) * 10, 14, 0), 1)
        self.assertEqual(fewest_bikes((10, 4, (12,)), (0,) * 10, 3, 0), None)
        self.assertEqual(fewest_bikes((10, 4, (12, 12)), (MAX_START,) * 10, LIMIT, 1), 0)

    def test_later_stations_help_less(self):
        self.assertEqual(
            [fewest_bikes((10, 4, (0, 0, 0)), (0, 5), 20, station) for station in range(3)], [2, None, None])


class LatestStart(unittest.TestCase):
    def test_all_plans_of_small_roads(self):
        for road, starts in [(road, starts) for road, starts in SMALL if len(starts) < 3]:
            plans = all_plans(road, len(starts) + 1)
            latest = max(starts) + road[0] * len(road[2])
            finishes = [best(road, (*starts, start), plans) for start in range(latest + 2)]
            for end in range(0, latest + 2, 1 if len(plans) < 40 else 3):
                fitting = [start for start, finish in enumerate(finishes) if finish <= end]
                expected = max(fitting) if fitting else None
                for _ in range(2):
                    self.assertEqual(repr(latest_start(road, starts, end)), repr(expected), (road, starts, end))

    def test_one_tick_later_is_too_late(self):
        for road, starts, end in some_trips(120):
            end = max(0, end)
            start = latest_start(road, starts, end)
            if start is None:
                self.assertGreater(least_finish(road, (*starts, 0)), end, (road, starts, end))
            else:
                self.assertGreaterEqual(start, 0)
                self.assertLessEqual(least_finish(road, (*starts, start)), end, (road, starts, end))
                self.assertGreater(least_finish(road, (*starts, start + 1)), end, (road, starts, end))

    def test_later_than_the_latest_start_of_starts(self):
        self.assertEqual(latest_start((1000, 1, (12,)), (0,), LIMIT), LIMIT - 1)
        self.assertEqual(latest_start((1000, 999, (0,) * 12), (MAX_START,), LIMIT), LIMIT - 12000)
        self.assertEqual(latest_start(B, (0,), MAX_START + 9), MAX_START + 1)

    def test_more_people_than_starts_have(self):
        self.assertEqual(latest_start((10, 4, (12,)), (0,) * 10, 4), 0)
        self.assertEqual(latest_start((10, 4, (10,)), (0,) * 10, 9), None)
        self.assertEqual(latest_start((10, 4, (10,)), (0,) * 10, 10), 6)
        self.assertEqual(latest_start((10, 4, (10,)), (7,) * 10, 10), None)
        self.assertEqual(latest_start((10, 4, (10,)), (7,) * 10, 11), 1)
        self.assertEqual(latest_start((10, 4, (10,)), (7,) * 10, 14), 4)

    def test_an_end_that_the_others_do_not_keep(self):
        self.assertIs(latest_start((3, 1, (0, 12)), (0, 5), 8), None)
        self.assertEqual(latest_start((3, 1, (0, 12)), (0, 5), 9), 5)
        self.assertIs(latest_start(A, (0, 0), 0), None)

    def test_the_starts_stay(self):
        starts = (0, 9)
        latest_start(B, starts, 40)
        self.assertEqual(starts, (0, 9))


class CanWalk(unittest.TestCase):
    def test_all_plans_of_small_roads(self):
        for road, starts in SMALL:
            plans = all_plans(road, len(starts))
            for person in range(len(starts)):
                without = [plan for plan in plans if not any(person in riders for riders in plan)]
                finish = best(road, starts, without)
                for end in interesting_ends(road, starts):
                    for _ in range(2):
                        self.assertIs(can_walk(road, starts, end, person), finish <= end, (road, starts, end, person))

    def test_needs_of_the_others(self):
        for road, starts, end in some_trips(60):
            if len(starts) > 6:
                continue
            end = max(0, end)
            needs = needs_of(road, starts, end)
            for person in range(len(starts)):
                groups = [group for group in subsets(len(starts)) if person not in group]
                fitting = all(sum(needs[other] for other in group) <= room_of(road, len(group)) for group in groups)
                self.assertIs(can_walk(road, starts, end, person), needs[person] == 0 and fitting)

    def test_one_person(self):
        for end, expected in [(0, False), (24, False), (25, True), (LIMIT, True)]:
            self.assertIs(can_walk((10, 4, (12, 12)), (5,), end, 0), expected)

    def test_ten_people(self):
        road = (10, 4, (9, 0))
        self.assertIs(can_walk(road, (0,) + (12,) * 9, 20, 0), True)
        self.assertIs(can_walk(road, (0,) + (12,) * 9, 19, 0), False)
        self.assertIs(can_walk(road, (1,) + (12,) * 9, 20, 0), False)
        self.assertIs(can_walk(road, (0,) + (12,) * 9, 20, 9), False)
        self.assertIs(can_walk((10, 4, (8, 0)), (0,) + (12,) * 9, 20, 0), False)
        self.assertIs(can_walk(road, (MAX_START,) * 10, LIMIT, 9), True)


if __name__ == "__main__":
    unittest.main()
