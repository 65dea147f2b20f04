"""The levels of the phones in the cells."""

from mobileair.checks import check_number, check_range
from mobileair.limits import HEARING

MOST_LEVEL = 63


class Signals:
    """The levels of so many phones in so many cells."""

    def __init__(self, phones, cells):
        self._cells = cells
        self._levels = [[0] * cells for _ in range(phones)]

    def level(self, phone, cell):
        """Return the level of a phone in a cell."""
        self._check(phone, cell)
        return self._levels[phone][cell]

    def set_level(self, phone, cell, level):
        """Set the level of a phone in a cell; return what it was."""
        self._check(phone, cell)
        check_range(level, 0, MOST_LEVEL, "level")
        before = self._levels[phone][cell]
        self._levels[phone][cell] = level
        return before

    def hears(self, phone, cell):
        """Return True if the phone hears the cell, otherwise False."""
        return self.level(phone, cell) >= HEARING

    def best(self, phone, *, without=None):
        """Return the best cell of a phone, one cell left out, and the level in it."""
        self._check_phone(phone)
        best = None
        most = 0
        for cell, level in enumerate(self._levels[phone]):
            if cell != without and (best is None or level > most):
                best = cell
                most = level
        return best, most

    def _check_phone(self, phone):
        """Raise NoSuch unless there is such a phone."""
        check_number(phone, len(self._levels), "phone")

    def _check(self, phone, cell):
        """Raise NoSuch unless there is such a phone, and then such a cell."""
        self._check_phone(phone)
        check_number(cell, self._cells, "cell")
