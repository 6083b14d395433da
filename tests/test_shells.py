import unittest

from cases import Case, picture
from samples import A, B, C, other_values

from roadbikes.bounds import LIMIT, MAX_START
from roadbikes.rule import find_certificate, least_finish, rule_plan
from roadbikes.shells import Shell
from roadbikes.texts import trip_text
from roadbikes.trips import PromisedTrip, Trip
from roadbikes.values import Party

UNKNOWN = "unknown command"
COMMANDS = ["come 4", "leave 0", "place 0 1", "take 0 1", "undo", "trip", "finish", "riders", "by 19"]
BAD_NUMBERS = [
    "", "00", "01", "007", "+1", "-1", "-0", "1.0", "1e1", "0x1", "1_0", "one", "None", "True", "\n", "1\n", "\n1", "\t1",
    "100000000", "123456789", "000000001", "9" * 40, "9" * 1900, "9" * 5000, "(1)", "'1'", "1,2", "\u0661", "\u00b2", "\uff11", "N",
]


class Commands(Case):
    def answers(self, shell, *expected):
        for line, answer in expected:
            self.assertEqual(shell.execute(line), answer, line)

    def test_edits(self):
        trip = Trip(B, (0, 9))
        self.answers(
            Shell(trip), ("come 4", "ok 1"), ("place 1 12", "ok 2"), ("leave 0", "ok 3"), ("take 1 5", "ok 4"),
            ("come 1000000", "ok 5"), ("come 0", "ok 6"), ("undo", "ok 5"), ("undo", "ok 4"))
        self.assertEqual(trip.edits(), (("come", 4), ("place", 1, 12), ("leave", 0), ("take", 1, 5)))
        self.assertEqual(trip.state(), ((10, 4, (1, 7)), (9, 4)))

    def test_queries(self):
        for road in [A, B, C, (3, 1, (0,)), (1000, 999, (12,) * 12), (2, 1, (0, 0, 3))]:
            for starts in [(0,), (9, 0), (0, 4, 8), (MAX_START,) * 10]:
                trip = Trip(road, starts)
                riders = [",".join(map(str, row)) or "-" for row in rule_plan(road, starts)]
                before = picture(trip)
                for _ in range(2):
                    self.answers(
                        Shell(trip), ("trip", trip_text(road, starts)), ("finish", str(least_finish(road, starts))),
                        ("riders", " ".join(riders)),
                        *[(f"by {end}", find_certificate(road, starts, end)[0]) for end in (0, 8, 19, 20, 24, LIMIT)])
                self.assertEqual(picture(trip), before)

    def test_riders(self):
        self.assertEqual(Shell(Trip((3, 1, (0,)), (5,))).execute("riders"), "-")
        self.assertEqual(Shell(Trip((3, 1, (0, 0, 1)), (5, 6))).execute("riders"), "- - 1")
        self.assertEqual(Shell(Trip((3, 1, (12, 0)), (0,) * 10)).execute("riders"), "0,1,2,3,4,5,6,7,8,9 0,1,2,3,4,5,6,7,8,9")
        self.assertEqual(Shell(Trip((10, 4, (1, 1, 0)), (0, 0, 0))).execute("riders"), "0 1,2 0,1")

    def test_by(self):
        shell = Shell(Trip(B, (0, 9)))
        self.answers(shell, ("by 0", "people"), ("by 19", "people"), ("by 20", "plan"), ("by 10000000", "plan"))

    def test_this_very_trip(self):
        trip = Trip(B, (0, 9))
        one, other = Shell(trip), Shell(trip)
        self.answers(one, ("come 1", "ok 1"))
        self.answers(other, ("trip", "10/4 1,0 from 0,9,1"), ("undo", "ok 0"))
        trip.leave(0)
        self.answers(one, ("trip", "10/4 1,0 from 9"), ("finish", "17"))
        trip.attempt([("come", 1)], watch=lambda same: self.answers(one, ("finish", "21"), ("come 2", "error Busy")))
        self.assertEqual(len(trip), 2)

    def test_promised_trip(self):
        trip = PromisedTrip(B, (0, 9), 20)
        self.answers(
            Shell(trip), ("come 0", "ok 1"), ("come 1", "error TooLate"), ("take 0 1", "error TooLate"), ("leave 2", "ok 2"),
            ("place 0 1", "ok 3"), ("take 0 1", "ok 4"), ("undo", "ok 3"), ("trip", "10/4 2,0 from 0,9"))
        self.assertEqual(trip.latest, 20)


class Errors(Case):
    def errors(self, trip, *expected):
        """Check lines that the trip answers with an error and that leave it as it is."""
        before = picture(trip)
        for line, name in expected:
            for _ in range(2):
                self.assertEqual(Shell(trip).execute(line), f"error {name}", line)
        self.assertEqual(picture(trip), before)

    def test_each_error(self):
        self.errors(
            Trip(B, (0, 9)), ("come 1000001", "BadStart"), ("come 99999999", "BadStart"), ("leave 2", "NoPerson"),
            ("leave 99999999", "NoPerson"), ("place 2 1", "NoStation"), ("take 2 0", "NoStation"), ("place 0 0", "BadCount"),
            ("take 0 13", "BadCount"), ("place 0 12", "TooMuch"), ("take 0 2", "TooFew"), ("take 1 1", "TooFew"),
            ("undo", "NothingToUndo"), ("by 10000001", "BadEnd"), ("by 99999999", "BadEnd"))
        self.errors(
            Trip(B, (0,) * 10), ("come 0", "TooManyPeople"), ("come 1000000", "TooManyPeople"), ("come 1000001", "BadStart"))
        self.errors(Trip(B, (0,)), ("leave 0", "LastPerson"), ("leave 1", "NoPerson"))
        self.errors(
            PromisedTrip(B, (0, 9), 20), ("come 1000000", "TooLate"), ("take 0 1", "TooLate"), ("take 0 2", "TooFew"),
            ("by 10000001", "BadEnd"), ("undo", "NothingToUndo"), ("come 1000001", "BadStart"))

    def test_too_many_edits(self):
        trip = Trip(B, (0, 9))
        shell = Shell(trip)
        for version in range(1, 61):
            self.assertEqual(shell.execute("place 1 1" if version % 2 else "take 1 1"), f"ok {version}")
        self.errors(
            trip, ("come 0", "TooManyEdits"), ("come 99999999", "TooManyEdits"), ("leave 0", "TooManyEdits"),
            ("leave 9", "TooManyEdits"), ("place 0 1", "TooManyEdits"), ("take 9 99", "TooManyEdits"))
        self.assertEqual([shell.execute("undo"), shell.execute("come 1")], ["ok 59", "ok 60"])

    def test_busy(self):
        trip = Trip(B, (0, 9))

        def watch(one):
            self.errors(
                one, ("come 0", "Busy"), ("come 99999999", "Busy"), ("leave 9", "Busy"), ("place 0 1", "Busy"),
                ("take 0 1", "Busy"), ("undo", "Busy"))
            shell = Shell(one)
            self.assertEqual([shell.execute("finish"), shell.execute("by 20")], ["20", "plan"])
            self.assertEqual([shell.execute("trip"), shell.execute("riders")], ["10/4 1,0 from 0,9,0", "1 1"])
            self.assertEqual([shell.execute("come"), shell.execute("come 000")], [UNKNOWN, UNKNOWN])

        self.assertEqual(trip.attempt([("come", 0)], watch=watch), 1)


class UnknownCommands(Case):
    def setUp(self):
        self.trip = Trip(B, (0, 9))
        self.trip.place(0, 2)
        self.before = picture(self.trip)

    def tearDown(self):
        self.assertEqual(picture(self.trip), self.before)

    def unknown(self, value):
        before = repr(value)
        for _ in range(2):
            self.assertEqual(Shell(self.trip).execute(value), UNKNOWN, before[:100])
        self.assertEqual(repr(value), before)

    def test_other_values(self):
        for value in [*other_values(), ["come 1"], ("undo",), ("come", 1), {"undo": 1}, Party((0,)), Trip(B, (0,))]:
            self.unknown(value)

    def test_spaces(self):
        for line in COMMANDS:
            for wrong in [
                f" {line}", f"{line} ", f"  {line}", f"{line}  ", f"\n{line}", f"{line}\n", f"\t{line}", line.replace(" ", "  "),
                line.replace(" ", "\n"), line.replace(" ", "\t"), line.replace(" ", ""), line.replace(" ", ","),
            ]:
                if wrong != line:
                    self.unknown(wrong)
        for line in ["", " ", "  ", "\n"]:
            self.unknown(line)

    def test_numbers_of_words(self):
        for line in COMMANDS:
            words = line.split(" ")
            self.unknown(f"{line} 1")
            self.unknown(f"{line} {line}")
            self.unknown(f"{line} 1 1")
            self.unknown(f"1 {line}")
            if len(words) > 1:
                self.unknown(" ".join(words[:-1]))
                self.unknown(words[0])
        for word in ["come", "leave", "place", "take", "by"]:
            self.unknown(f"{word} ")

    def test_numbers(self):
        for number in BAD_NUMBERS:
            for line in [
                f"come {number}", f"leave {number}", f"place {number} 1", f"place 0 {number}", f"take {number} 1",
                f"take 0 {number}", f"by {number}", f"undo {number}",
            ]:
                self.unknown(line)

    def test_other_words(self):
        for line in COMMANDS:
            word, *more = line.split(" ")
            for wrong in [word.upper(), word.title(), word + "s", word[:-1], word + ",", f"'{word}'"]:
                self.unknown(" ".join([wrong, *more]))
        for line in [
            "help", "exit", "edits", "state", "walk", "len", "str", "road", "starts", "attempt", "read 1", "certificate 1",
            "call_edit 1", "do_edit 1 1", "execute 1", "error", "ok 1", "0", "1 1", "come4", "place 0,1", "from",
            "10/4 1,0 from 0,9", "trip\nfinish", "undo undo", "come one",
        ]:
            self.unknown(line)


if __name__ == "__main__":
    unittest.main()
