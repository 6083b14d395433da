import copy
import unittest

from samples import A, B, C, other_values, replaced

from roadbikes.bounds import MAX_PEOPLE, MAX_STAGES
from roadbikes.errors import OtherTicks, TooLong
from roadbikes.roads import counts_of, is_road, joined, road_error, room_of


class RoadErrors(unittest.TestCase):
    def check(self, value, expected):
        before = copy.deepcopy(value)
        for _ in range(2):
            self.assertEqual(repr(road_error(value)), repr(expected), value)
            self.assertIs(is_road(value), expected is None, value)
        self.assertEqual(repr(value), repr(before))

    def test_examples(self):
        self.assertEqual(
            [is_road(A), road_error((4, 4, (1,))), road_error((10, 4, ())), road_error((10, 4, (1, 13)))],
            [True, (None, "ticks"), (None, "bikes"), (1, "bikes")])

    def test_numbers_of_stages(self):
        for many in range(1, MAX_STAGES + 1):
            self.check((10, 4, (0,) * many), None)
        for many in [0, 13, 14, 500]:
            self.check((10, 4, (0,) * many), (None, "bikes"))

    def test_ticks(self):
        for walk, ride in [(2, 1), (1000, 999), (1000, 1), (10, 9)]:
            self.check((walk, ride, (1,)), None)
        wrong = [(1, 1), (1, 0), (10, 0), (10, -1), (10, 10), (10, 11), (1000, 1000), (1001, 4), (1001, 1000),
                 (0, 0), (0, 1), (-4, -10), (10 ** 39, 4), (1000, 10 ** 39)]
        for walk, ride in wrong:
            self.check((walk, ride, (1,)), (None, "ticks"))

    def test_bicycles(self):
        for many in range(13):
            self.check((10, 4, (many,)), None)
            self.check((10, 4, (0, many, 12)), None)
        for many in [-1, 13, 14, 10 ** 39]:
            self.check((10, 4, (many,)), (0, "bikes"))

    def test_index_of_the_first_wrong_item(self):
        for stages in range(1, MAX_STAGES + 1):
            for at in range(stages):
                right = (12,) * stages
                self.check((10, 4, replaced(right, at, 13)), (at, "bikes"))
                self.check((10, 4, replaced(right, at, -1)), (at, "bikes"))
                self.check((10, 4, right[:at] + (None,) * (stages - at)), (at, "bikes"))

    def test_number_of_items(self):
        for value in [(), (10,), (10, 4), (10, 4, (1,), 1), (10, 4, (1,), None), ((10, 4, (1,)),)]:
            self.check(value, (None, "road"))

    def test_lists_in_place_of_tuples(self):
        self.check([10, 4, (1,)], (None, "road"))
        self.check((10, 4, [1]), (None, "bikes"))
        self.check((10, 4, ([1],)), (0, "bikes"))
        self.check((10, 4, ((1,),)), (0, "bikes"))

    def test_bools_are_no_numbers_also_behind_equal_calls(self):
        self.check((2, 1, (1, 0)), None)
        self.check((2, True, (1, 0)), (None, "ticks"))
        self.check((2, 1, (True, 0)), (0, "bikes"))
        self.check((2, 1, (1, False)), (1, "bikes"))
        self.check((2, 1, (1, 0)), None)
        self.check((True, 1, (1,)), (None, "ticks"))
        self.check((True, False, (1,)), (None, "ticks"))
        self.check((10, False, (1,)), (None, "ticks"))

    def test_other_values(self):
        for value in other_values():
            three = isinstance(value, tuple) and len(value) == 3
            self.check(value, (None, "ticks") if three else (None, "road"))

    def test_roads_with_a_replaced_part(self):
        for part in other_values():
            self.check((part, 4, (1, 0)), (None, "ticks"))
            self.check((1000, part, (1, 0)), (None, "ticks"))
            self.check((10, 4, (1, part)), (1, "bikes"))
            self.check((10, 4, (part, 1)), (0, "bikes"))
            self.check((10, 4, part), self.expected_for_bikes(part))

    def expected_for_bikes(self, part):
        if type(part) is not tuple or len(part) not in range(1, 13):
            return (None, "bikes")
        wrong = [at for at, item in enumerate(part) if type(item) is not int or item not in range(13)]
        return (wrong[0], "bikes") if wrong else None

    def test_order_of_errors(self):
        self.check((0, 0, ()), (None, "ticks"))
        self.check((10, 10, (13,)), (None, "ticks"))
        self.check((10, 4, (13,) * 13), (None, "bikes"))
        self.check((10, 4, (1, 13, -1)), (1, "bikes"))
        self.check((0, 0, (), ()), (None, "road"))


class Counts(unittest.TestCase):
    def test_examples(self):
        self.assertEqual(
            [counts_of(C), room_of(C, 1), room_of(C, 2), room_of(C, 9)], [(1, 1, 3), 3, 4, 5])

    def test_counts(self):
        self.assertEqual(counts_of((10, 4, (0,))), (0,))
        self.assertEqual(counts_of((10, 4, (0, 0, 3, 0, 1))), (0, 0, 3, 3, 4))
        self.assertEqual(counts_of((10, 4, (12,) * 12)), tuple(range(12, 145, 12)))

    def test_room_for_all_numbers_of_people(self):
        for many in range(MAX_PEOPLE + 1):
            self.assertEqual(room_of((10, 4, (0, 0, 0)), many), 0)
            self.assertEqual(room_of((10, 4, (12,) * 12), many), 12 * many)
            self.assertEqual(room_of((10, 4, (1, 0)), many), min(many, 1) * 2)
            self.assertEqual(room_of((10, 4, (0, 2, 3)), many), [0, 2, 4, 5, 6, 7, 7, 7, 7, 7, 7][many])

    def test_equal_calls(self):
        self.assertEqual([counts_of(C), room_of(C, 2)], [counts_of(C), room_of(C, 2)])
        self.assertEqual(C, (10, 4, (1, 0, 2)))


class Joined(unittest.TestCase):
    def raises(self, kind, roads):
        with self.assertRaises(kind) as caught:
            joined(*roads)
        return caught.exception

    def test_example(self):
        self.assertEqual([joined(A), joined(B, A)], [(10, 4, (1, 0, 0)), (10, 4, (1, 0, 1, 0, 0))])

    def test_one_road_alone(self):
        for road in [A, B, C, (1000, 999, (12,) * 12), (2, 1, (0,))]:
            self.assertEqual(joined(road), road)

    def test_several_in_order(self):
        self.assertEqual(joined(A, B, C), (10, 4, (1, 0, 0, 1, 0, 1, 0, 2)))
        self.assertEqual(joined(C, B, A), (10, 4, (1, 0, 2, 1, 0, 1, 0, 0)))
        self.assertEqual(joined(B, B), (10, 4, (1, 0, 1, 0)))
        self.assertEqual(B, (10, 4, (1, 0)))

    def test_other_ticks_at_each_place(self):
        for other in [(11, 4, (1,)), (9, 4, (1,)), (10, 5, (1,)), (10, 3, (1,)), (20, 8, (1,))]:
            for at in range(4):
                others = replaced((B,) * 4, at, other)
                self.assertEqual(self.raises(OtherTicks, (B, *others)).index, at)
                behind = others[:at] + (other,) * (4 - at)
                self.assertEqual(self.raises(OtherTicks, (B, *behind)).index, at)

    def test_the_first_road_sets_the_ticks(self):
        self.assertEqual(self.raises(OtherTicks, ((11, 4, (1,)), B, B)).index, 0)

    def test_twelve_and_thirteen_stages(self):
        one, six, twelve = (10, 4, (3,)), (10, 4, (1,) * 6), (10, 4, (2,) * 12)
        self.assertEqual(joined(six, six), (10, 4, (1,) * 12))
        self.assertEqual(joined(*[one] * 12), (10, 4, (3,) * 12))
        for roads in [(six, six, one), (twelve, one), (one, twelve), (twelve, twelve), (one,) * 13]:
            self.assertEqual(self.raises(TooLong, roads).bound, 12)

    def test_other_ticks_come_before_too_long(self):
        twelve = (10, 4, (2,) * 12)
        self.assertEqual(self.raises(OtherTicks, (twelve, twelve, (10, 5, (1,)))).index, 1)


if __name__ == "__main__":
    unittest.main()
