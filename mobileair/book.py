"""The book: a line for each call that became active, and the units of each person."""

from mobileair.errors import NotNow

# How many ticks of a call are one unit.
UNIT = 10


class Book:
    """The lines, in the order in which the calls became active."""

    def __init__(self):
        self._lines = []

    def begin(self, caller, called, tick):
        """Add a line for a call that became active in this tick; return its index."""
        self._lines.append((caller, called, tick, None, None))
        return len(self._lines) - 1

    def end(self, line, tick, cause):
        """End a line in this tick, for this cause."""
        caller, called, begun, ended, _ = self._lines[line]
        if ended is not None:
            raise NotNow("end")
        self._lines[line] = (caller, called, begun, tick, cause)

    def lines(self):
        """Return the list of all lines: caller, called, begin, end and cause."""
        return list(self._lines)

    def units(self, person):
        """Return the sum of the units of the calls that the person made and that have ended."""
        spans = [(begun, ended) for caller, called, begun, ended, cause in self._lines if caller == person]
        return sum([1 + (ended - begun) // UNIT for begun, ended in spans if ended is not None])
