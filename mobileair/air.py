"""The air: what becomes of the blocks that are sent."""

from mobileair.bits import flipped
from mobileair.bursts import code_block, read_block

# How many bits a burst has.
BURST = 114


class Air:
    """What becomes of the blocks of all phones, in both ways."""

    def __init__(self, signals):
        self._signals = signals
        # How many blocks are still to be lost, and which bits of the next block are flipped,
        # by phone and way.
        self._losses = {}
        self._flips = {}

    def lose(self, phone, way, blocks):
        """Let the next blocks of a phone in a way be lost, so many of them."""
        self._losses[(phone, way)] = blocks

    def harm(self, phone, way, places):
        """Let the bits at these places of the next block of a phone in a way be flipped."""
        self._flips[(phone, way)] = list(places)

    def carry(self, phone, way, cell, block):
        """Send a block on a channel of a cell; return the block that arrives, or None."""
        is_heard = self._signals.hears(phone, cell)
        places = self._flips.pop((phone, way), [])
        left = self._losses.pop((phone, way), 0)
        if left > 1:
            self._losses[(phone, way)] = left - 1
        if left > 0 or not is_heard:
            return None
        return _harmed(block, places) if places else block


def _harmed(block, places):
    """Return what is read of a block with flipped bits, or None if it cannot be read."""
    bursts = code_block(block)
    for place in places:
        bursts[place // BURST] = flipped(bursts[place // BURST], [place % BURST])
    octets, _, good = read_block(bursts)
    return octets if good else None
