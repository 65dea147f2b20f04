"""The phone's side of a call."""

from mobileair.errors import NotNow

# The cause of a call that the phone itself hangs up.
HUNG_UP = 16


class PhoneCall:
    """The call side of one phone."""

    def __init__(self):
        self._state = "idle"
        self._cause = 0
        self._said = []
        self._heard = []
        # The number that was dialled, until it is sent.
        self._dialled = None
        self._answered = False

    @property
    def state(self):
        """The state, a string."""
        return self._state

    @property
    def cause(self):
        """The cause for which the last call ended, 0 at first."""
        return self._cause

    @property
    def said(self):
        """The words that were said, a tuple of tuples of octets."""
        return tuple(self._said)

    @property
    def heard(self):
        """The words that were heard, a tuple of tuples of octets."""
        return tuple(self._heard)

    def dial(self, number):
        """Begin a call to a number."""
        if self._state != "idle":
            raise NotNow("dial")
        self._begin("starting")
        self._dialled = number

    def take(self, message):
        """Take a message; return the list of the messages to be sent back."""
        kind = message[0]
        if kind == "disconnect":
            return self._take_disconnect(message[1])
        if kind == "word":
            return self._take_word(message[1])
        if self._state == "idle" and kind == "setup":
            self._begin("ringing")
            return [("alerting",)]
        if self._state == "ringing" and kind == "connect done" and self._answered:
            self._state = "active"
            return []
        return self._take_progress(kind)

    def answer(self):
        """Answer the call; return the message to be sent."""
        if self._state != "ringing" or self._answered:
            raise NotNow("answer")
        self._answered = True
        return ("connect",)

    def say(self, octets):
        """Say a word; return the message to be sent."""
        if self._state != "active":
            raise NotNow("say")
        self._said.append(octets)
        return ("word", octets)

    def hang(self, reached):
        """Hang up; return the message to be sent, or None if there is no link for the call yet."""
        if not self._is_busy():
            raise NotNow("hang")
        self._cause = HUNG_UP
        if not reached:
            self._state = "idle"
            return None
        self._state = "clearing"
        return ("disconnect", HUNG_UP)

    def end(self, cause):
        """Let the phone's link end, with a cause or None."""
        if cause is not None and self._is_busy():
            self._cause = cause
        self._state = "idle"

    def _is_busy(self):
        """Return True in each state but idle and clearing."""
        return self._state != "idle" and self._state != "clearing"

    def _begin(self, state):
        """Begin a call in this state; what was said, heard, dialled and answered before is forgotten."""
        self._state = state
        self._said = []
        self._heard = []
        self._dialled = None
        self._answered = False

    def _take_progress(self, kind):
        """Take a message that tells how far a call has come that this phone makes."""
        if self._state == "starting" and kind == "service accept" and self._dialled is not None:
            number = self._dialled
            self._dialled = None
            return [("setup", number)]
        if self._state == "starting" and kind == "proceeding":
            self._state = "looking"
        elif self._state == "looking" and kind == "alerting":
            self._state = "alerting"
        elif self._state in ("looking", "alerting") and kind == "connect":
            self._state = "active"
            return [("connect done",)]
        return []

    def _take_disconnect(self, cause):
        """Take the end of the call."""
        if self._is_busy():
            self._state = "idle"
            self._cause = cause
        return []

    def _take_word(self, octets):
        """Take a word of the other side."""
        if self._state == "active":
            self._heard.append(octets)
        return []
