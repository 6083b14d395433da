"""What the checks of numbers, ends and starts in the package have in common."""

from roadbikes.bounds import LIMIT, MAX_PEOPLE, MAX_START


def is_number_from(value, least, most):
    """Return whether any value is a number from least to most."""
    # A bool is an int for Python, but not a number here.
    if isinstance(value, bool) or not isinstance(value, int):
        return False
    return least <= value <= most


def is_end(value):
    """Return whether any value is a tick by which somebody may have to be at the end."""
    return is_number_from(value, 0, LIMIT)


def is_starts(value):
    """Return whether any value is starts."""
    if not isinstance(value, tuple) or not 1 <= len(value) <= MAX_PEOPLE:
        return False
    for start in value:
        if not is_number_from(start, 0, MAX_START):
            return False
    return True
