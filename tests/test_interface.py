import importlib
import inspect
import unittest

PARAMETERS = {
    "roads": {
        "is_road": "(value)", "road_error": "(value)", "counts_of": "(road)", "room_of": "(road, many)",
        "joined": "(road, *others)",
    },
    "plans": {
        "is_plan": "(road, people, value)", "ticks_of": "(road, starts, plan)",
        "finish_of": "(road, starts, plan)", "waits_of": "(road, starts, plan)",
    },
    "rule": {
        "rule_plan": "(road, starts)", "least_finish": "(road, starts)", "needs_of": "(road, starts, end)",
        "find_certificate": "(road, starts, end)", "certificate_holds": "(road, starts, end, value)",
    },
    "counting": {
        "count_plans": "(road, people)", "count_good": "(road, starts, end)", "each_plan": "(road, people)",
    },
    "more": {
        "fewest_bikes": "(road, starts, end, station)", "latest_start": "(road, starts, end)",
        "can_walk": "(road, starts, end, person)",
    },
    "texts": {"trip_text": "(road, starts)", "parse_trip": "(value)"},
}
CLASSES = {
    "values": {
        "Party": ("(starts)", [
            "starts", "__getitem__", "__add__", "__rshift__", "__contains__", "__iter__", "__len__", "__str__", "__eq__"]),
        "Race": ("(road)", ["__call__", "best"]),
    },
    "promises": {"Promise": ("(latest)", ["latest", "left"])},
    "trips": {
        "Trip": ("(road, starts)", [
            "road", "starts", "finish", "MOST_EDITS", "come", "leave", "place", "take", "undo", "attempt", "state",
            "certificate", "walk", "edits", "read", "__len__", "__str__", "__eq__"]),
        # These behave otherwise than those of a trip.
        "PromisedTrip": ("(road, starts, latest)", ["come", "leave", "place", "take", "__eq__"]),
    },
    "shells": {"Shell": ("(trip)", ["execute"])},
}
METHODS = {
    "promises": {"Promise": {"left": "(self, tick)"}},
    "trips": {
        "Trip": {
            "come": "(self, start)", "leave": "(self, person)", "place": "(self, station, count)",
            "take": "(self, station, count)", "undo": "(self)", "attempt": "(self, edits, *, watch=None)",
            "state": "(self, *, version=None)", "certificate": "(self, end, *, version=None)",
            "walk": "(self, *, version=None)", "edits": "(self)", "read": "(text)",
        },
        "PromisedTrip": {
            "come": "(self, start)", "leave": "(self, person)", "place": "(self, station, count)",
            "take": "(self, station, count)", "left": "(self, tick)", "attempt": "(self, edits, *, watch=None)",
        },
    },
    "shells": {"Shell": {"execute": "(self, line)"}},
}


class Interface(unittest.TestCase):
    def test_functions_stand_in_their_files(self):
        for name, functions in PARAMETERS.items():
            module = importlib.import_module(f"roadbikes.{name}")
            for function, parameters in functions.items():
                with self.subTest(function):
                    found = getattr(module, function)
                    self.assertTrue(inspect.isfunction(found))
                    self.assertEqual(found.__module__, module.__name__)
                    self.assertEqual(str(inspect.signature(found)), parameters)

    def test_classes_stand_in_their_files_and_have_their_own_methods(self):
        for name, classes in CLASSES.items():
            module = importlib.import_module(f"roadbikes.{name}")
            for kind, (parameters, members) in classes.items():
                with self.subTest(kind):
                    found = getattr(module, kind)
                    self.assertTrue(inspect.isclass(found))
                    self.assertEqual(found.__module__, module.__name__)
                    self.assertEqual(str(inspect.signature(found)), parameters)
                    self.assertEqual([member for member in members if member not in vars(found)], [])

    def test_parameters_of_methods(self):
        for name, classes in METHODS.items():
            module = importlib.import_module(f"roadbikes.{name}")
            for kind, methods in classes.items():
                for method, parameters in methods.items():
                    with self.subTest(f"{kind}.{method}"):
                        self.assertEqual(str(inspect.signature(getattr(getattr(module, kind), method))), parameters)


if __name__ == "__main__":
    unittest.main()
