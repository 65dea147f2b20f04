"""Pages: which phones are asked to answer, how often, and in which order."""

from mobileair.limits import PAGE_EVERY, PAGE_TIMES

# How many pages are sent in an area in one step.
MOST_SENT = 2


class Pages:
    """The pages, at most one for each person, in the order in which they were asked for."""

    def __init__(self):
        # The reason of each page, how often it was sent, and in which tick last (or None), by person.
        self._pages = {}

    def ask(self, person, reason):
        """Ask for a page; it stands behind all others."""
        self.take(person)
        self._pages[person] = (reason, 0, None)

    def take(self, person):
        """Take the page of a person away; return its reason, or None if there is no page."""
        reason = self.reason(person)
        self._pages.pop(person, None)
        return reason

    def reason(self, person):
        """Return the reason of the page of a person, or None."""
        return self._pages[person][0] if person in self._pages else None

    def sent(self, person):
        """Return how often the page of a person was sent, or None."""
        return self._pages[person][1] if person in self._pages else None

    def step(self, tick, areas):
        """Let pages fail and send others, by the area of each person or None; return both lists."""
        failed = self._fail(tick)
        sent = []
        # How many pages were sent in each area.
        counts = {}
        for person in list(self._pages):
            area = areas[person]
            count = counts.get(area, 0)
            if area is not None and count < MOST_SENT and not self._waits(person, tick):
                reason, times, _ = self._pages[person]
                self._pages[person] = (reason, times + 1, tick)
                counts[area] = count + 1
                sent.append(person)
        return failed, sent

    def _fail(self, tick):
        """Let the pages go that were sent for the last time and wait no more; return their pairs."""
        failed = []
        for person in list(self._pages):
            if self.sent(person) >= PAGE_TIMES and not self._waits(person, tick):
                failed.append((person, self.take(person)))
        return failed

    def _waits(self, person, tick):
        """Return True if the page of a person was sent a short time ago, otherwise False."""
        last = self._pages[person][2]
        return last is not None and tick < last + PAGE_EVERY
