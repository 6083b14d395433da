"""The shell: commands as lines of text, and their answers."""

from roadbikes.changes import is_edit
from roadbikes.errors import (
    BadCount, BadEnd, BadStart, Busy, LastPerson, NoPerson, NoStation, NothingToUndo, TooFew, TooLate, TooManyEdits,
    TooManyPeople, TooMuch)
from roadbikes.rule import rule_plan
from roadbikes.texts import listed, number_in, trip_text

UNKNOWN = "unknown command"
MOST = 99999999


class Shell:
    """Commands that change a trip or ask for something of it."""

    def __init__(self, trip):
        self.trip = trip

    def execute(self, line):
        """Return the answer to any value, which is a command or not."""
        command = command_in(line)
        if command is None:
            return UNKNOWN
        try:
            return self.answer(command)
        except Busy:
            return "error Busy"
        except TooManyEdits:
            return "error TooManyEdits"
        except BadStart:
            return "error BadStart"
        except TooManyPeople:
            return "error TooManyPeople"
        except NoPerson:
            return "error NoPerson"
        except LastPerson:
            return "error LastPerson"
        except NoStation:
            return "error NoStation"
        except BadCount:
            return "error BadCount"
        except TooMuch:
            return "error TooMuch"
        except TooFew:
            return "error TooFew"
        except TooLate:
            return "error TooLate"
        except NothingToUndo:
            return "error NothingToUndo"
        except BadEnd:
            return "error BadEnd"

    def answer(self, command):
        """Return the answer to a word and numbers, if the trip raises no error."""
        if is_edit(command):
            return f"ok {self.trip.call_edit(command)}"
        if command == ("undo",):
            return f"ok {self.trip.undo()}"
        if command == ("trip",):
            return trip_text(self.trip.road, self.trip.starts)
        if command == ("finish",):
            return str(self.trip.finish)
        if command == ("riders",):
            return riders_text(rule_plan(self.trip.road, self.trip.starts))
        if command[0] == "by" and len(command) == 2:
            return self.trip.certificate(command[1])[0]
        return UNKNOWN


def command_in(line):
    """Return the tuple of the first word of a line and the numbers behind it, or None for any other value."""
    if not isinstance(line, str):
        return None
    words = line.split(" ")
    numbers = [number_in(word, 0, MOST) for word in words[1:]]
    return None if None in numbers else (words[0], *numbers)


def riders_text(plan):
    """Return the riders of each stage of a plan, with a dash where nobody rides."""
    return " ".join([listed(riders) if riders else "-" for riders in plan])
