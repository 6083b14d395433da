import unittest

from roadbikes import bounds


class Bounds(unittest.TestCase):
    def test_the_values_of_the_document(self):
        expected = {
            "LIMIT": 10000000, "MAX_TICKS": 1000, "MAX_STAGES": 12, "MAX_BIKES": 12, "MAX_PEOPLE": 10,
            "MAX_START": 1000000, "SMALL_PLANS": 5000, "MAX_EDITS": 60, "BATCH": 20,
        }
        for name, value in expected.items():
            with self.subTest(name):
                self.assertIs(type(getattr(bounds, name)), int)
                self.assertEqual(getattr(bounds, name), value)


if __name__ == "__main__":
    unittest.main()
