"""The collector: it holds parts until their text is whole."""

from mobileair.alphabet import text_of
from mobileair.errors import NotNow
from mobileair.parts import read_part

MOST_HELD = 12


class Collector:
    """Takes parts, in any order, and gives the texts that become whole."""

    def __init__(self):
        # The septets of each part that is held, by its mark, its count of parts and its number.
        self._rows = {}

    @property
    def held(self):
        """How many parts are held."""
        return len(self._rows)

    def take(self, octets):
        """Take a part; return the text if it has become whole, otherwise None."""
        mark, many, number, row = read_part(octets)
        own = (mark, many, number)
        if own in self._rows:
            return None
        keys = [(mark, many, place) for place in range(1, many + 1)]
        whole = all([key == own or key in self._rows for key in keys])
        if not whole and len(self._rows) >= MOST_HELD:
            raise NotNow("room")
        self._rows[own] = row
        return text_of(self._taken_rows(keys)) if whole else None

    def _taken_rows(self, keys):
        """Return the septets of these parts, one behind the other; the parts are held no longer."""
        whole = []
        for key in keys:
            whole.extend(self._rows.pop(key))
        return whole
