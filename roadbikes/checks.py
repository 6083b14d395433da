"""What every check of numbers in the package has in common."""


def is_number_from(value, least, most):
    """Return whether any value is a number from least to most."""
    # A bool is an int for Python, but not a number here.
    if isinstance(value, bool) or not isinstance(value, int):
        return False
    return least <= value <= most
