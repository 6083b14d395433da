import copy
import pickle
import unittest

from roadbikes import errors

TRIP_ERRORS = {
    "OtherTicks": ["index"], "TooLong": ["bound"], "TooLarge": ["bound"], "BadStarts": ["value"],
    "TooManyPeople": [], "BadTicks": ["value"], "TooLate": ["tick"], "BadRoad": ["error"],
    "BadParty": ["value"], "Busy": [], "TooManyEdits": [], "BadStart": ["value"], "LastPerson": [],
    "BadCount": ["value"], "TooMuch": ["total"], "TooFew": ["present"], "NothingToUndo": [],
    "BadEdits": [], "BadEdit": ["index"], "Rejected": ["index"], "BadEnd": ["value"], "BadText": ["index"],
}
LOOKUPS = {"NoPerson": ["value"], "NoStation": ["value"], "NoVersion": ["value"]}
ALL = {**TRIP_ERRORS, **LOOKUPS}


class Bases(unittest.TestCase):
    def test_trip_error_is_a_value_error(self):
        self.assertTrue(issubclass(errors.TripError, ValueError))
        self.assertFalse(issubclass(errors.TripError, LookupError))

    def test_listed_errors_are_trip_errors(self):
        for name in TRIP_ERRORS:
            with self.subTest(name):
                self.assertEqual(getattr(errors, name).__bases__, (errors.TripError,))
                self.assertFalse(issubclass(getattr(errors, name), LookupError))

    def test_lookups_are_no_value_errors(self):
        for name in LOOKUPS:
            with self.subTest(name):
                self.assertEqual(getattr(errors, name).__bases__, (LookupError,))
                self.assertFalse(issubclass(getattr(errors, name), ValueError))

    def test_none_derives_from_another(self):
        for name in ALL:
            for other in ALL:
                if name != other:
                    with self.subTest(name, other=other):
                        self.assertFalse(issubclass(getattr(errors, name), getattr(errors, other)))

    def test_each_is_defined_in_the_file(self):
        for name in ["TripError", *ALL]:
            with self.subTest(name):
                self.assertEqual(getattr(errors, name).__module__, "roadbikes.errors")
                self.assertEqual(getattr(errors, name).__name__, name)


class Fields(unittest.TestCase):
    def test_fields_are_the_very_values(self):
        for name, fields in ALL.items():
            for value in [0, 1, True, None, "text", (1, (2,)), [1, [2]], {"a": 1}]:
                with self.subTest(name, value=value):
                    passed = [value] * len(fields)
                    error = getattr(errors, name)(*passed)
                    for field in fields:
                        self.assertIs(getattr(error, field), value)
                    self.assertEqual(sorted(vars(error)), sorted(fields))

    def test_fields_are_required(self):
        for name, fields in ALL.items():
            if fields:
                with self.subTest(name):
                    self.assertRaises(TypeError, getattr(errors, name))
                    self.assertRaises(TypeError, getattr(errors, name), 1, 2)

    def test_raised_and_caught(self):
        for name, fields in ALL.items():
            with self.subTest(name), self.assertRaises(getattr(errors, name)):
                raise getattr(errors, name)(*fields)

    def test_copies_keep_the_fields(self):
        for name, fields in ALL.items():
            error = getattr(errors, name)(*[7 for _ in fields])
            for twin in [copy.copy(error), pickle.loads(pickle.dumps(error))]:
                with self.subTest(name):
                    self.assertIs(type(twin), type(error))
                    self.assertEqual(vars(twin), vars(error))


if __name__ == "__main__":
    unittest.main()
