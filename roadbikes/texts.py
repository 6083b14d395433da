"""The text of a road and starts, and what a text tells."""

from roadbikes.bounds import MAX_BIKES, MAX_PEOPLE, MAX_STAGES, MAX_START, MAX_TICKS
from roadbikes.errors import BadText

WORDS = 4


def trip_text(road, starts):
    """Return the text of the road and the starts."""
    walk, ride, bikes = road
    return f"{walk}/{ride} {listed(bikes)} from {listed(starts)}"


def listed(numbers):
    """Return the numbers with commas between them."""
    return ",".join([str(number) for number in numbers])


def parse_trip(value):
    """Return the road and the starts whose text any value is."""
    if not isinstance(value, str):
        raise BadText(None)
    parts = []
    for index, word in enumerate(value.split(" ")):
        part = part_in(word, index)
        if part is None:
            raise BadText(index)
        parts.append(part)
    if len(parts) < WORDS:
        raise BadText(len(parts))
    ticks, bikes, joint, starts = parts
    return ((*ticks, bikes), starts)


def part_in(word, index):
    """Return what the word at this index of a text stands for, or None if it is wrong there."""
    if index == 0:
        return ticks_in(word)
    if index == 1:
        return numbers_in(word, MAX_STAGES, MAX_BIKES)
    if index == 2:
        return word if word == "from" else None
    if index == 3:
        return numbers_in(word, MAX_PEOPLE, MAX_START)
    return None


def ticks_in(word):
    """Return the tuple of walk and ride that a word stands for, or None."""
    parts = word.split("/")
    if len(parts) != 2:
        return None
    walk = number_in(parts[0], 1, MAX_TICKS)
    if walk is None:
        return None
    ride = number_in(parts[1], 1, walk - 1)
    return None if ride is None else (walk, ride)


def numbers_in(word, many, most):
    """Return the tuple of 1 to many numbers from 0 to most that a word stands for, or None."""
    parts = word.split(",")
    if len(parts) > many:
        return None
    numbers = [number_in(part, 0, most) for part in parts]
    return None if None in numbers else tuple(numbers)


def number_in(text, least, most):
    """Return the number from least to most that a text stands for, or None."""
    # isdigit alone also takes digits that are not ASCII.
    if not text.isascii() or not text.isdigit():
        return None
    # A longer text is out of range, and int itself does not take one of any length.
    if len(text) > len(str(most)) or (text.startswith("0") and text != "0"):
        return None
    number = int(text)
    return number if least <= number <= most else None
