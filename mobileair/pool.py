"""The channels of the cells: which are free, held by an owner, or rest."""

from mobileair.checks import check_number
from mobileair.errors import NotNow
from mobileair.limits import REST


class Pool:
    """The channels of some cells."""

    def __init__(self, sizes):
        self._sizes = list(sizes)
        # The owner of each channel that is held, by (cell, channel).
        self._owners = {}
        # The tick in which each channel was let go last, by (cell, channel).
        self._left = {}

    def free(self, cell, tick):
        """Return the least free channel of the cell, or None."""
        self._check_cell(cell)
        for channel in range(self._sizes[cell]):
            if self.status(cell, channel, tick) == "free":
                return channel
        return None

    def hold(self, cell, channel, owner, tick):
        """Let the owner hold a channel that is free in this tick."""
        if self.status(cell, channel, tick) != "free":
            raise NotNow("hold")
        self._owners[(cell, channel)] = owner

    def let_go(self, cell, channel, tick):
        """Let a channel go that is held; from this tick on it rests."""
        self._check_channel(cell, channel)
        if (cell, channel) not in self._owners:
            raise NotNow("let go")
        del self._owners[(cell, channel)]
        self._left[(cell, channel)] = tick

    def owner(self, cell, channel):
        """Return the owner of a channel that is held, otherwise None."""
        self._check_channel(cell, channel)
        return self._owners.get((cell, channel))

    def status(self, cell, channel, tick):
        """Return free, held or rests."""
        self._check_channel(cell, channel)
        place = (cell, channel)
        if place in self._owners:
            return "held"
        if place in self._left and tick - self._left[place] < REST:
            return "rests"
        return "free"

    def held_by(self, owner):
        """Return the list of the channels that the owner holds, as pairs, in ascending order."""
        return sorted([place for place, holder in self._owners.items() if holder == owner])

    def _check_cell(self, cell):
        """Raise NoSuch unless there is such a cell."""
        check_number(cell, len(self._sizes), "cell")

    def _check_channel(self, cell, channel):
        """Raise NoSuch unless there is such a cell and it has such a channel."""
        self._check_cell(cell)
        check_number(channel, self._sizes[cell], "channel")
