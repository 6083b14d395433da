import importlib
import inspect
import unittest

PARAMETERS = {
    "roads": {
        "is_road": "(value)", "road_error": "(value)", "counts_of": "(road)", "room_of": "(road, many)",
        "joined": "(road, *others)",
    },
    "plans": {
        "is_plan": "(road, people, value)", "ticks_of": "(road, starts, plan)",
        "finish_of": "(road, starts, plan)", "waits_of": "(road, starts, plan)",
    },
}


class Interface(unittest.TestCase):
    def test_functions_stand_in_their_files(self):
        for name, functions in PARAMETERS.items():
            module = importlib.import_module(f"roadbikes.{name}")
            for function, parameters in functions.items():
                with self.subTest(function):
                    found = getattr(module, function)
                    self.assertTrue(inspect.isfunction(found))
                    self.assertEqual(found.__module__, module.__name__)
                    self.assertEqual(str(inspect.signature(found)), parameters)


if __name__ == "__main__":
    unittest.main()
