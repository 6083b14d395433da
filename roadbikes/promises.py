"""Promises: a latest tick, and what is left until then."""

from roadbikes.checks import is_end
from roadbikes.errors import BadEnd, TooLate


class Promise:
    """A tick until which something is promised to be done."""

    def __init__(self, latest):
        if not is_end(latest):
            raise BadEnd(latest)
        self.promised = latest

    @property
    def latest(self):
        """The latest tick that keeps the promise."""
        return self.promised

    def left(self, tick):
        """Return how many ticks are left at this tick."""
        if not is_end(tick):
            raise BadEnd(tick)
        if tick > self.promised:
            raise TooLate(tick)
        return self.promised - tick
