"""A line: a link with both its ends, for trial."""

from mobileair.checks import check_range
from mobileair.ends import End


class Line:
    """Two ends that send to each other."""

    def __init__(self):
        self._first = End(0)
        self._second = End(1)

    def end(self, side):
        """Return the end of a side."""
        return self._first if side == 0 else self._second

    def tick(self, lost):
        """Do a tick; return what side 0 and side 1 have sent, each a frame or None.

        lost is 1 if what side 0 sends is lost, 2 if what side 1 sends is, 3 if both are.
        """
        check_range(lost, 0, 3, "lost")
        from_first = self._first.send()
        from_second = self._second.send()
        if from_first is not None and lost not in (1, 3):
            self._second.take(from_first)
        if from_second is not None and lost not in (2, 3):
            self._first.take(from_second)
        return from_first, from_second
