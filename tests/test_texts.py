import unittest

from samples import A, B, C, other_values

from roadbikes.bounds import MAX_START
from roadbikes.errors import BadText
from roadbikes.texts import parse_trip, trip_text
from roadbikes.values import Party, Race

TRIPS = [
    (A, (0, 0), "10/4 1,0,0 from 0,0"),
    (B, (0, 9), "10/4 1,0 from 0,9"),
    (C, (9, 0), "10/4 1,0,2 from 9,0"),
    ((2, 1, (0,)), (0,), "2/1 0 from 0"),
    ((1000, 999, (12,)), (MAX_START,), "1000/999 12 from 1000000"),
    ((3, 1, (10, 11, 12)), (10, 100, 1000), "3/1 10,11,12 from 10,100,1000"),
    ((1000, 1, (12,) * 12), (MAX_START,) * 10, "1000/1 " + ",".join(["12"] * 12) + " from " + ",".join(["1000000"] * 10)),
]
BAD_NUMBERS = [
    "", "00", "01", "007", "+1", "-1", "-0", " ", "1.0", "1e1", "0x1", "1_0", "one", "None", "True", "\n", "1\n", "\n1",
    "\t1", "9" * 40, "9" * 1900, "9" * 5000, "1" + "0" * 30, "(1)", "'1'", "1;2", "\u0661", "\u00b2", "\uff11",
]


class TripText(unittest.TestCase):
    def test_trips(self):
        for road, starts, text in TRIPS:
            for _ in range(2):
                self.assertEqual(trip_text(road, starts), text)


class ParseTrip(unittest.TestCase):
    def bad(self, value, index):
        before = repr(value)
        for _ in range(2):
            with self.assertRaises(BadText) as caught:
                parse_trip(value)
            self.assertIs(type(caught.exception), BadText)
            self.assertEqual(repr(caught.exception.index), repr(index), before[:100])
        self.assertEqual(repr(value), before)

    def test_trips(self):
        for road, starts, text in TRIPS:
            for _ in range(2):
                self.assertEqual(repr(parse_trip(text)), repr((road, starts)))

    def test_every_number(self):
        for many in range(13):
            self.assertEqual(parse_trip(f"10/4 {many} from 0"), ((10, 4, (many,)), (0,)))
        for walk in range(2, 1001):
            self.assertEqual(parse_trip(f"{walk}/{walk - 1} 0 from {walk}"), ((walk, walk - 1, (0,)), (walk,)))

    def test_no_text(self):
        for value in other_values():
            if type(value) is not str:
                self.bad(value, None)
        for value in [["10/4 1,0 from 0,9"], ("10/4", "1,0", "from", "0,9"), (B, (0, 9)), Party((0,)), Race(B)]:
            self.bad(value, None)

    def test_other_texts(self):
        for value in ["", "1", "road", "a\nb", "x" * 2000, "\n", "from", "10/4,1,0,from,0,9", "10/4\n1,0\nfrom\n0,9"]:
            self.bad(value, 0)

    def test_walk_and_ride(self):
        wrong = ["4/4", "4/5", "10/0", "1/1", "1/0", "0/0", "1001/4", "1001/1000", "10000/4", "10", "10/", "/4", "/", "//",
                 "10/4/", "/10/4", "10/4/1", "10//4", "10,4", "10:4", "10\\4", "04/10", "10/4,", "10/4\n", "\n10/4", "4/10"]
        wrong += [f"{number}/4" for number in BAD_NUMBERS if number != " "]
        wrong += [f"10/{number}" for number in BAD_NUMBERS if number != " "]
        for word in wrong:
            self.bad(f"{word} 1,0 from 0,9", 0)
            self.bad(word, 0)

    def test_bicycles(self):
        wrong = ["13", "1,13", "13,1", "100", ",", "1,", ",1", "1,,0", "1/0", "1;0", "1,0,", "from", ",".join("0" * 13)]
        wrong += [f"1,{number}" for number in BAD_NUMBERS if number != " "]
        wrong += [f"{number},1" for number in BAD_NUMBERS if number != " "]
        wrong += [number for number in BAD_NUMBERS if number != " "]
        for word in wrong:
            self.bad(f"10/4 {word} from 0,9", 1)
            self.bad(f"10/4 {word}", 1)

    def test_from(self):
        for word in ["", "From", "FROM", "fro", "fromm", "from,", "to", "0", "from\n", "\nfrom", "from\t"]:
            self.bad(f"10/4 1,0 {word} 0,9", 2)
            self.bad(f"10/4 1,0 {word}", 2)

    def test_starts(self):
        wrong = ["1000001", "0,1000001", "9999999", "10000000", ",", "0,", ",0", "0,,9", "0/9", "from", ",".join("0" * 11)]
        wrong += [f"0,{number}" for number in BAD_NUMBERS if number != " "]
        wrong += [f"{number},9" for number in BAD_NUMBERS if number != " "]
        wrong += [number for number in BAD_NUMBERS if number != " "]
        for word in wrong:
            self.bad(f"10/4 1,0 from {word}", 3)
            self.bad(f"10/4 1,0 from {word} 7", 3)

    def test_more_than_four_words(self):
        for more in [" ", "  ", " 0", " from", " from 0,9", " 10/4 1,0 from 0,9", " \n"]:
            self.bad("10/4 1,0 from 0,9" + more, 4)

    def test_fewer_than_four_words(self):
        self.bad("10/4", 1)
        self.bad("10/4 1,0", 2)
        self.bad("10/4 1,0 from", 3)

    def test_spaces(self):
        self.bad(" 10/4 1,0 from 0,9", 0)
        self.bad(" ", 0)
        self.bad("10/4  1,0 from 0,9", 1)
        self.bad("10/4 ", 1)
        self.bad("10/4 1,0  from 0,9", 2)
        self.bad("10/4 1,0 ", 2)
        self.bad("10/4 1,0 from  0,9", 3)
        self.bad("10/4 1,0 from ", 3)
        self.bad("10/4 1, 0 from 0,9", 1)
        self.bad("10 /4 1,0 from 0,9", 0)
        self.bad("10/4\n1,0 from 0,9", 0)
        self.bad("10/4 1,0\tfrom 0,9", 1)

    def test_the_first_wrong_word(self):
        self.bad("4/4 1,13 to 0,-9 0", 0)
        self.bad("10/4 1,13 to 0,-9 0", 1)
        self.bad("10/4 1,0 to 0,-9 0", 2)
        self.bad("10/4 1,0 from 0,-9 0", 3)
        self.bad("10/4 1,0 from 0,9 0 0", 4)
        self.bad("10/4 to", 1)

    def test_stages_and_people_at_most(self):
        bikes, starts = ",".join("0" * 12), ",".join("0" * 10)
        self.assertEqual(parse_trip(f"10/4 {bikes} from {starts}"), ((10, 4, (0,) * 12), (0,) * 10))


if __name__ == "__main__":
    unittest.main()
