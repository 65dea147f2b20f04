"""The network's side of a link."""

from mobileair.ends import End
from mobileair.limits import BETTER, CAMPING
from mobileair.messages import write_message


class NetworkLink:
    """A network link, which belongs to one phone."""

    def __init__(self, key, phone, place, tick):
        # The phone's link that began together with it has the same key; it owns the channels under it.
        self.key = key
        self.phone = phone
        # The channel on which it sends, a pair (cell, channel), and the second one of a handover or None.
        self.place = place
        self.second = None
        # The person that is known for it, or None.
        self.person = None
        # What it is for: call, texts, delivery or None.
        self.purpose = None
        self.released = False
        self.terminal = End(1)
        # The tick in which a block was taken last; at first, the tick before the first one.
        self.last = tick - 1
        # The other cell that was clearly better in the tick before, or None, and in how many ticks in a row.
        self.better = None
        self.run = 0

    def tell(self, message):
        """Tell the phone a message, if the link is not released and its end is up."""
        if not self.released and self.terminal.state == "up":
            self.terminal.give(write_message(message))

    def release(self):
        """Release the link, if it is not yet released."""
        self.tell(("release",))
        self.released = True

    def watch(self, signals):
        """Count the ticks in which the same other cell is clearly better for the phone."""
        best, level = signals.best(self.phone, without=self.place[0])
        least = max(CAMPING, signals.level(self.phone, self.place[0]) + BETTER)
        if best is None or level < least:
            self.forget_better()
            return
        self.run = self.run + 1 if best == self.better else 1
        self.better = best

    def forget_better(self):
        """Count from 0 again."""
        self.better = None
        self.run = 0
