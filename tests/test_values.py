import copy
import unittest
from itertools import permutations

from samples import A, B, nested, other_values, replaced

from roadbikes.bounds import MAX_PEOPLE, MAX_START
from roadbikes.errors import (
    BadParty, BadRoad, BadStarts, BadTicks, NoPerson, TooLate, TooManyPeople)
from roadbikes.roads import road_error
from roadbikes.rule import least_finish
from roadbikes.values import Party, Race


def is_number(value):
    return type(value) is int


def are_starts(value):
    return type(value) is tuple and 1 <= len(value) <= 10 and all(
        is_number(item) and 0 <= item <= 1000000 for item in value)


class Values(unittest.TestCase):
    def raises(self, kind, action, value):
        """Check the error and that the value is the very one and unchanged; return the error."""
        before = repr(value)
        with self.assertRaises(kind) as caught:
            action(value)
        self.assertIs(type(caught.exception), kind)
        self.assertEqual(repr(value), before)
        return caught.exception

    def raises_with(self, kind, action, value):
        self.assertIs(self.raises(kind, action, value).value, value)


class PartyStarts(Values):
    def test_starts(self):
        for starts in [(0,), (MAX_START,), (5, 5), (9, 0, 4), tuple(range(MAX_PEOPLE)), (MAX_START,) * 10]:
            party = Party(starts)
            for _ in range(2):
                self.assertEqual(party.starts, starts)
                self.assertEqual(len(party), len(starts))

    def test_starts_are_only_read(self):
        party = Party((0, 9))
        with self.assertRaises(AttributeError):
            party.starts = (1, 9)
        self.assertEqual(party.starts, (0, 9))

    def test_numbers_out_of_range(self):
        for wrong in [-1, MAX_START + 1, 10 ** 39, -(10 ** 39)]:
            for at in range(3):
                self.raises_with(BadStarts, Party, replaced((1, 2, 3), at, wrong))

    def test_numbers_of_people(self):
        for wrong in [(), (0,) * 11, (0,) * 1000]:
            self.raises_with(BadStarts, Party, wrong)

    def test_bools_are_no_starts_also_behind_equal_calls(self):
        for wrong in [(True,), (False,), (0, True), (False, 1)]:
            right = tuple(map(int, wrong))
            self.assertEqual(Party(right).starts, right)
            self.raises_with(BadStarts, Party, wrong)
            self.assertEqual(Party(right).starts, right)

    def test_other_values(self):
        wrong = [value for value in other_values() if not are_starts(value)]
        self.assertGreater(len(wrong), 25)
        for value in [*wrong, [0, 9], {"starts": (0, 9)}, "0,9", Party((0, 9)), (Party((0,)),), Race(B)]:
            self.raises_with(BadStarts, Party, value)
        for part in other_values():
            self.raises_with(BadStarts, Party, (0, part))
            self.raises_with(BadStarts, Party, (part, 0))


class PartyOperators(Values):
    def test_items(self):
        starts = (7, 0, 7, MAX_START)
        for person, start in enumerate(starts):
            self.assertEqual(Party(starts)[person], start)

    def test_no_person(self):
        party = Party((3, 9))
        for value in [*other_values(), 2, 3, 9, -1, -2, (0,), [0], "0", slice(0, 1), party]:
            self.raises_with(NoPerson, lambda at: party[at], value)
        self.assertEqual([party[0], party[1]], [3, 9])
        self.raises_with(NoPerson, lambda at: party[at], False)
        self.raises_with(NoPerson, lambda at: party[at], True)

    def test_no_person_is_a_lookup_error_only(self):
        self.assertIsInstance(self.raises(NoPerson, lambda at: Party((0,))[at], 1), LookupError)

    def test_no_loop(self):
        party = Party((0, 9))
        for loop in [list, tuple, sorted, iter, set, lambda it: [x for x in it], lambda it: dict.fromkeys(it)]:
            self.assertRaises(TypeError, loop, party)
        with self.assertRaises(TypeError):
            one, other = party

    def test_sum(self):
        one, other = Party((5, 0)), Party((0, 9, 5))
        for _ in range(2):
            self.assertEqual((one + other).starts, (5, 0, 0, 9, 5))
            self.assertEqual((other + one).starts, (0, 9, 5, 5, 0))
            self.assertEqual((one + one).starts, (5, 0, 5, 0))
            self.assertIs(type(one + other), Party)
            self.assertEqual([one.starts, other.starts], [(5, 0), (0, 9, 5)])

    def test_sum_in_place_makes_another_party(self):
        one = same = Party((5, 0))
        one += Party((1,))
        self.assertEqual([one.starts, same.starts], [(5, 0, 1), (5, 0)])
        one >>= 2
        self.assertEqual([one.starts, same.starts], [(7, 2, 3), (5, 0)])

    def test_too_many_people(self):
        for many in range(1, 11):
            one = Party((1,) * many)
            for more in range(1, 11):
                other = Party((2,) * more)
                if many + more <= 10:
                    self.assertEqual((one + other).starts, (1,) * many + (2,) * more)
                else:
                    with self.assertRaises(TooManyPeople):
                        one + other
                self.assertEqual([len(one), len(other)], [many, more])

    def test_sum_with_another_value(self):
        for value in [None, 0, (4,), [4], "4"]:
            with self.assertRaises(TypeError):
                Party((0,)) + value

    def test_later(self):
        party = Party((0, 9, 0))
        for ticks in (0, 1, 7, MAX_START - 9):
            self.assertEqual((party >> ticks).starts, (ticks, 9 + ticks, ticks))
            self.assertIs(type(party >> ticks), Party)
        self.assertEqual((Party((0,)) >> MAX_START).starts, (MAX_START,))
        self.assertEqual((Party((MAX_START,)) >> 0).starts, (MAX_START,))
        self.assertEqual(party.starts, (0, 9, 0))

    def test_bad_ticks(self):
        party = Party((MAX_START, 0))
        wrong = [value for value in other_values() if not (is_number(value) and 0 <= value <= MAX_START)]
        for value in [*wrong, True, False, -1, MAX_START + 1, (1,), [1], "1", party]:
            self.raises_with(BadTicks, lambda ticks: party >> ticks, value)
        self.assertEqual(party.starts, (MAX_START, 0))

    def test_too_late(self):
        for starts, ticks, tick in [
            ((MAX_START,), 1, MAX_START + 1), ((0, MAX_START), 1, MAX_START + 1), ((0, 9), MAX_START, MAX_START + 9),
            ((0, 3, 9, 1), MAX_START, MAX_START + 3), ((5, 9, 1), MAX_START - 4, MAX_START + 1),
            ((MAX_START,) * 2, MAX_START, 2 * MAX_START), ((9, 5, 1), MAX_START - 8, MAX_START + 1),
        ]:
            party = Party(starts)
            self.assertEqual(self.raises(TooLate, lambda later: party >> later, ticks).tick, tick)
            self.assertEqual(party.starts, starts)

    def test_in(self):
        party = Party((0, 9, 9, MAX_START))
        for value in [0, 9, MAX_START]:
            self.assertIs(value in party, True)
        for value in [1, 8, 10, -1, -9, MAX_START - 1, MAX_START + 1, 10 ** 39, "9", (9,), [9], (0, 9), None]:
            self.assertIs(value in party, False)

    def test_bools_are_in_no_party(self):
        party = Party((0, 1))
        self.assertEqual([0 in party, False in party, 1 in party, True in party], [True, False, True, False])
        self.assertEqual([0 not in party, False not in party], [False, True])

    def test_any_value_in(self):
        party = Party((0, 1, 4, 10))
        for value in [*other_values(), nested(30, list), party, Party((0,)), Race(B)]:
            before = repr(value)
            for _ in range(2):
                self.assertIs(value in party, is_number(value) and value in (0, 1, 4, 10))
            self.assertEqual(repr(value), before)


class PartyTexts(Values):
    def test_str(self):
        for starts, text in [
            ((0,), "       0"), ((999,), "     999"), ((1000,), "   1,000"), ((999999,), " 999,999"),
            ((MAX_START,), "1,000,000"), ((MAX_START, 0, MAX_START), "1,000,000       01,000,000"),
            ((5,) * 10, "       5" * 10),
        ]:
            for _ in range(2):
                self.assertEqual(str(Party(starts)), text)

    def test_equal_in_any_order(self):
        for starts in [(0,), (0, 9), (5, 5, 1), (3, 1, 2, 0)]:
            for other in permutations(starts):
                self.assertIs(Party(starts) == Party(other), True)
                self.assertIs(Party(starts) != Party(other), False)
        party = Party((9, 0))
        self.assertIs(party == party, True)
        self.assertEqual(party.starts, (9, 0))

    def test_not_equal(self):
        for one, other in [
            ((0,), (1,)), ((0,), (0, 0)), ((0, 0, 1), (0, 1, 1)), ((0, 9), (0, 8)), ((0, 9), (0, 9, 9)), ((1, 2), (3,)),
        ]:
            self.assertIs(Party(one) == Party(other), False)
            self.assertIs(Party(other) == Party(one), False)
            self.assertIs(Party(one) != Party(other), True)

    def test_not_equal_to_other_values(self):
        party = Party((10, 4))
        for value in [*other_values(), (10, 4), (4, 10), [10, 4], 2, "10,4", str(party), Race(B), 4]:
            self.assertIs(party == value, False)
            self.assertIs(value == party, False)
            self.assertIs(party != value, True)


class Races(Values):
    def test_bad_roads(self):
        wrong = [value for value in other_values() if road_error(value) is not None]
        self.assertGreater(len(wrong), 25)
        for value in [
            *wrong, (4, 4, (1,)), (10, 4, ()), (10, 4, (1, 13)), (10, 4, (True,)), [10, 4, (1, 0)], Race(B), Party((0,)),
            (10, 4, (0,) * 13), (10, 4, (1, 0), 0), (10, True, (1,)),
        ]:
            error = self.raises(BadRoad, Race, value).error
            self.assertEqual(repr(error), repr(road_error(value)))

    def test_errors_of_roads_as_written(self):
        for value, error in [
            (None, (None, "road")), ((4, 4, (1,)), (None, "ticks")), ((10, 4, ()), (None, "bikes")),
            ((10, 4, (1, 13)), (1, "bikes")), ((10, 4, (1, True)), (1, "bikes")),
        ]:
            self.assertEqual(self.raises(BadRoad, Race, value).error, error)

    def test_calls(self):
        for road in [A, B, (3, 1, (0,)), (9, 2, (3, 0, 2, 0, 0, 1, 0, 4, 0, 0, 2, 0))]:
            race = Race(road)
            for starts in [(5,), (0, 9), (9, 0), (0,) * 10, tuple(range(0, 100, 10)), (MAX_START,)]:
                for _ in range(2):
                    self.assertEqual(race(Party(starts)), least_finish(road, starts))

    def test_best_is_the_least_so_far(self):
        race = Race((3, 1, (0,)))
        self.assertIs(race.best, None)
        for start, best in [(7, 10), (9, 10), (7, 10), (5, 8), (6, 8), (0, 3), (100, 3)]:
            race(Party((start,)))
            self.assertEqual([race.best, race.best], [best, best])

    def test_races_are_apart(self):
        one, other = Race(B), Race(B)
        one(Party((0,)))
        self.assertEqual([one.best, other.best], [8, None])

    def test_best_is_only_read(self):
        race = Race(B)
        with self.assertRaises(AttributeError):
            race.best = 0
        self.assertIs(race.best, None)

    def test_bad_party(self):
        race = Race(B)
        values = [*other_values(), (0, 9), [0, 9], 0, True, "0,9", Race(B), race, (Party((0,)),), [Party((0,))]]
        for value in values:
            self.raises_with(BadParty, race, value)
        self.assertIs(race.best, None)
        self.assertEqual(race(Party((0, 9))), 20)
        for value in values:
            self.raises_with(BadParty, race, value)
        self.assertEqual(race.best, 20)

    def test_the_party_stays(self):
        party = Party((9, 0))
        Race(B)(party)
        self.assertEqual([party.starts, str(party)], [(9, 0), "       9       0"])

    def test_nested_values_stay_as_they_are(self):
        value = {"a": [1, (2, [3])]}
        before = copy.deepcopy(value)
        self.raises_with(BadStarts, Party, value)
        self.raises_with(BadParty, Race(B), value)
        self.assertEqual(value, before)


if __name__ == "__main__":
    unittest.main()
