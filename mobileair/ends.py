"""The ends of a link, which bring messages to each other once and in order."""

from mobileair.errors import NotNow
from mobileair.limits import EVERY, TIMES

# How many octets a piece of a message has at most.
PIECE = 20
# The numbers of the pieces count modulo this.
NUMBERS = 8


class End:
    """One end of a link; side 0 sets the link up, side 1 answers."""

    def __init__(self, side):
        self._side = side
        self._state = "down"
        # The message with which side 0 begins.
        self._first = ()
        # The pieces that wait, as pairs (more, octets).
        self._pieces = []
        # The number of the next piece to be sent, and of the next one to be taken.
        self._sending = 0
        self._taking = 0
        # At how many sendings the command has stood, or None if there is no command.
        self._age = None
        # The answer that is owed, or None.
        self._answer = None
        # The octets that have come of a message that is not whole yet.
        self._begun = ()
        self._come = []

    @property
    def state(self):
        """The state: down, rising, up or failed."""
        return self._state

    @property
    def idle(self):
        """True if no piece waits and there is no command, otherwise False."""
        return self._age is None and len(self._pieces) == 0

    def begin(self, octets):
        """Begin to set the link up, with a first message."""
        if self._side != 0 or self._state != "down":
            raise NotNow("begin")
        self._state = "rising"
        self._first = octets
        self._age = 0

    def give(self, octets):
        """Give the end a message to be sent."""
        if self._state != "rising" and self._state != "up":
            raise NotNow("give")
        for at in range(0, len(octets), PIECE):
            self._pieces.append((at + PIECE < len(octets), octets[at:at + PIECE]))

    def send(self):
        """Return the frame that the end sends in this tick, or None."""
        if self._state == "up" and self._age is None and self._pieces:
            self._age = 0
        if self._age is not None:
            if self._age == EVERY * TIMES:
                self._fail()
                return None
            self._age += 1
            if self._age % EVERY == 1:
                return self._command()
        answer = self._answer
        self._answer = None
        return answer

    def take(self, frame):
        """Take a frame that the other end has sent."""
        kind = frame[0]
        if kind == "setup":
            self._take_setup(frame[1])
        elif kind == "accept":
            self._take_accept()
        elif self._state == "up" and kind == "ready":
            self._finish(frame[1])
        elif self._state == "up":
            _, s, r, more, octets = frame
            self._finish(r)
            self._take_piece(s, more, octets)

    def messages(self):
        """Return the list of the messages that have come since the last call."""
        come = self._come
        self._come = []
        return come

    def _command(self):
        """Return the frame of the command; an info also says what a ready would say."""
        if self._state == "rising":
            return ("setup", self._first)
        if self._answer != ("accept",):
            self._answer = None
        more, octets = self._pieces[0]
        return ("info", self._sending, self._taking, more, octets)

    def _fail(self):
        """Give the link up."""
        self._state = "failed"
        self._age = None
        self._answer = None

    def _take_setup(self, octets):
        """Take a setup; only side 1 is set up by it, and only once."""
        if self._side != 1 or self._state == "failed":
            return
        if self._state == "down":
            self._state = "up"
            self._come.append(octets)
        self._answer = ("accept",)

    def _take_accept(self):
        """Take an accept, which ends the setup."""
        if self._state == "rising":
            self._state = "up"
            self._age = None

    def _finish(self, r):
        """Finish the piece that is being sent, if r tells that the other end has taken it."""
        following = (self._sending + 1) % NUMBERS
        if self._age is not None and r == following:
            self._pieces.pop(0)
            self._age = None
            self._sending = following

    def _take_piece(self, s, more, octets):
        """Take the piece with the number s, if it is the next one, and owe an answer."""
        if s == self._taking:
            self._taking = (s + 1) % NUMBERS
            self._begun = self._begun + octets
            if not more:
                self._come.append(self._begun)
                self._begun = ()
        self._answer = ("ready", self._taking)
