"""A phone: what it wants, its link, and what it does with each message of the network."""

from mobileair.collector import Collector
from mobileair.ends import End
from mobileair.errors import NotNow
from mobileair.limits import AREA_REST, TRIES
from mobileair.messages import write_message
from mobileair.phonecall import PhoneCall
from mobileair.reading import read_message

# The cause of a call for which the phone gets no channel, and of one whose link is lost.
NO_CHANNEL = 47
LINK_LOST = 27


class PhoneLink:
    """The phone's side of a link."""

    def __init__(self, key, wish, place, tick):
        # The network link that began together with it has the same key.
        self.key = key
        # What the phone wanted when the link began: page, area, call or texts.
        self.wish = wish
        # The channel to which the phone keeps, a pair (cell, channel).
        self.place = place
        self.terminal = End(0)
        self.leaving = False
        # The tick in which a block was taken last; at first, the tick before the first one.
        self.last = tick - 1
        # On a link for texts, how many pairs follow behind the one that is submitted.
        self.following = 0


class Phone:
    """One phone, with or without a link."""

    def __init__(self, subscriber):
        self._subscriber = subscriber
        self.powered = False
        # The cell on which it camps, the area that it knows, and its link, each of them or None.
        self.cell = None
        self.known = None
        self.link = None
        self.tries = 0
        self.rest = 0
        # Whether it has heard a page, and whether it was told to dial, and still wants a link for it.
        self.paged = False
        self.dialled = False
        self.side = PhoneCall()
        # The pairs of a number and a part that are still to be sent.
        self.outgoing = []
        # How many texts were told to this phone.
        self.told = 0
        # The pairs of a number and a text that were read.
        self.read = []
        self._collectors = {}

    def wishes(self, cell_areas):
        """Return the list of what the phone wants, in order, by the areas of the cells."""
        if not self.powered or self.link is not None:
            return []
        found = []
        if self.paged:
            found.append("page")
        if self.cell is not None and cell_areas[self.cell] != self.known and self.rest == 0:
            found.append("area")
        if self.dialled:
            found.append("call")
        if self.outgoing:
            found.append("texts")
        return found

    def switch_off(self):
        """Let the phone be off: without a cell, a link, an area, and anything that it wants."""
        self.powered = False
        self.cell = None
        self.known = None
        self.link = None
        self.tries = 0
        self.rest = 0
        self.paged = False
        self.dialled = False
        self.side.end(None)
        self.outgoing = []

    def begin(self, link, area):
        """Begin a link for what the phone wants, in a cell of this area."""
        self.link = link
        self.tries = 0
        if link.wish == "page":
            self.paged = False
        elif link.wish == "call":
            self.dialled = False
        link.terminal.begin(write_message(self._first_message(link.wish, area)))

    def ask_in_vain(self, wish):
        """Count a try that brought no channel; behind the last one, give up what was wanted."""
        self.tries += 1
        if self.tries < TRIES:
            return
        self.tries = 0
        if wish == "page":
            self.paged = False
        elif wish == "area":
            self.rest = AREA_REST
        elif wish == "call":
            self.dialled = False
            self.side.end(NO_CHANNEL)
        else:
            self.outgoing = []

    def give(self, message):
        """Give a message to the end of the link, if there is one that takes messages."""
        if self.link is not None and self.link.terminal.state in ("rising", "up"):
            self.link.terminal.give(write_message(message))

    def take(self, frame):
        """Take a frame of the network, and act on what has come."""
        link = self.link
        link.terminal.take(frame)
        for octets in link.terminal.messages():
            message = read_message(octets)
            if message is not None:
                self._act(link, message)

    def leave(self):
        """Leave the link."""
        self._end_link(None)

    def lose(self):
        """Lose the link."""
        self._end_link(LINK_LOST)

    def _end_link(self, cause):
        """End the link, and with it the call, unless the phone still wants a link for the call."""
        self.cell = self.link.place[0]
        self.link = None
        self.tries = 0
        if not self.dialled:
            self.side.end(cause)

    def _first_message(self, wish, area):
        """Return the message with which a link begins that is for what is wanted."""
        if wish == "page":
            return ("page answer", self._subscriber)
        if wish == "area":
            return ("area update", area, self._subscriber)
        return ("service", wish, self._subscriber)

    def _act(self, link, message):
        """Act on a message of the network, and give the answers to the end."""
        for answer in self._answers(link, message):
            if link.terminal.state == "up":
                link.terminal.give(write_message(answer))

    def _answers(self, link, message):
        """Act on a message of the network; return the list of the answers."""
        kind = message[0]
        if kind == "area accept":
            self.known = message[1]
            return []
        if kind == "release":
            link.leaving = True
            return []
        if kind == "handover":
            link.place = (message[1], message[2])
            return [("handover done",)]
        if kind == "deliver":
            self._collect(message[1], message[2])
            return [("taken",)]
        if link.wish == "texts" and kind in ("service accept", "stored", "refused"):
            return self._send_texts(link, kind)
        return self.side.take(message)

    def _send_texts(self, link, kind):
        """Begin to send the outbox, or go on with it; return the list of the answers."""
        if kind == "service accept":
            link.following = len(self.outgoing) - 1
            return [self._submission(link)]
        self.outgoing.pop(0)
        if link.following == 0:
            return []
        link.following -= 1
        return [self._submission(link)]

    def _submission(self, link):
        """Return the message that submits the first pair of the outbox."""
        number, part = self.outgoing[0]
        return ("submit", link.following, number, part)

    def _collect(self, number, part):
        """Take a part that has come from a number, and keep the text if it is whole."""
        collector = self._collectors.setdefault(number, Collector())
        try:
            text = collector.take(part)
        except NotNow:
            # There is no room for the part; it is dropped.
            text = None
        if text is not None:
            self.read.append((number, text))
