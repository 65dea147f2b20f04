"""The network's side: its links, and how it acts on messages, pages, calls and stored parts."""

from mobileair.blocks import unpack_frame
from mobileair.home import Home
from mobileair.limits import NETWORK_LOSS
from mobileair.netlink import NetworkLink
from mobileair.pages import Pages
from mobileair.pool import Pool
from mobileair.reading import read_message
from mobileair.store import Store
from mobileair.switch import Switch

# In how many ticks in a row another cell must be clearly better for a handover.
HANDOVER_RUN = 3


class Exchange:
    """All that the network itself has: the home register, calls, pages, channels, parts and links."""

    def __init__(self, sizes):
        self.home = Home()
        self.switch = Switch(self.home)
        self.pages = Pages()
        self.pool = Pool(sizes)
        self.store = Store()
        # The network links, in the order in which they began.
        self.current = []
        # How many network links have begun; it is the key of the next one.
        self._begun = 0

    def begin(self, phone, place, tick):
        """Begin a network link of a phone, on a free channel; return its key."""
        key = self._begun
        self._begun += 1
        cell, channel = place
        self.pool.hold(cell, channel, key, tick)
        self.current.append(NetworkLink(key, phone, place, tick))
        return key

    def take(self, key, place, block, tick):
        """Let the network link with this key, if it has not ended, take a block that came on a channel."""
        for link in list(self.current):
            if link.key == key:
                self._take_block(link, place, block, tick)

    def finish(self, link, is_lost, tick):
        """End a network link, as lost or not."""
        self.current.remove(link)
        for cell, channel in self.pool.held_by(link.key):
            self.pool.let_go(cell, channel, tick)
        if link.person is None:
            return
        if is_lost:
            self._do(self.switch.lost(link.person, tick))
        self._page_for_texts(link.person)

    def finish_lost(self, tick):
        """End the network links that have failed, or have taken no block for too long."""
        for link in list(self.current):
            if link.terminal.state == "failed" or tick - link.last >= NETWORK_LOSS:
                self.finish(link, True, tick)

    def send_pages(self, areas, tick):
        """Do a step of the pages, by the areas of the persons; return the persons whose pages were sent."""
        failed, sent = self.pages.step(tick, areas)
        for person, reason in failed:
            if reason == "call":
                self._do(self.switch.failed(person, self._linked(), tick))
        return sent

    def hand_over(self, signals, tick):
        """Send the phones of active calls to cells that have been clearly better for some ticks."""
        for link in self.current:
            if self._may_move(link):
                link.watch(signals)
            else:
                link.forget_better()
            if link.run >= HANDOVER_RUN:
                self._move(link, tick)

    def step_calls(self, tick):
        """Do a step of the switch."""
        self._do(self.switch.step(self._linked(), tick))

    def act(self, link, message, tick):
        """Act on a message that has come on a network link."""
        if link.released:
            return
        if link.person is not None:
            self._go_on(link, message, tick)
        elif message[0] in ("area update", "service", "page answer"):
            self._meet(link, message, tick)

    def _take_block(self, link, place, block, tick):
        """Let a network link take a block; a block on its second channel ends a handover."""
        link.last = tick
        if link.second is not None and place == link.second:
            cell, channel = link.place
            self.pool.let_go(cell, channel, tick)
            link.place = link.second
            link.second = None
        frame = unpack_frame(block)
        if frame is None:
            return
        link.terminal.take(frame)
        for octets in link.terminal.messages():
            message = read_message(octets)
            if message is not None:
                self.act(link, message, tick)

    def _meet(self, link, message, tick):
        """Act on the message that tells whose link it is."""
        person = self.home.with_digits(message[-1])
        if person is None:
            return
        other = self._link_of(person)
        link.person = person
        if other is not None:
            self.finish(other, True, tick)
        if message[0] == "area update":
            self.home.set_area(person, message[1])
            link.tell(("area accept", message[1]))
            link.release()
        elif message[0] == "service":
            link.tell(("service accept",))
            link.purpose = message[1]
        else:
            self._answer_page(link, tick)

    def _answer_page(self, link, tick):
        """Act on the answer to a page."""
        reason = self.pages.take(link.person)
        if reason == "call":
            self._do(self.switch.answered(link.person, tick))
        elif reason == "texts":
            self._deliver(link)
        else:
            link.release()

    def _go_on(self, link, message, tick):
        """Act on a message of a person that was known before."""
        kind = message[0]
        if kind == "setup" and link.purpose == "call":
            self._do(self.switch.start(link.person, message[1], self._linked(), tick))
            link.purpose = None
        elif kind == "submit" and link.purpose == "texts":
            self._submit(link, message)
        elif kind == "taken" and link.purpose == "delivery":
            self.store.drop_first(link.person)
            self._deliver(link)
        else:
            self._do(self._call_actions(link.person, message, tick))

    def _call_actions(self, person, message, tick):
        """Return the actions of the event that a message of a call is for the switch."""
        kind = message[0]
        if kind == "alerting":
            return self.switch.alerting(person)
        if kind == "connect":
            return self.switch.connect(person)
        if kind == "connect done":
            return self.switch.connected(person, tick)
        if kind == "word":
            return self.switch.word(person, message[1])
        if kind == "disconnect":
            return self.switch.disconnect(person, message[1], tick)
        return []

    def _submit(self, link, message):
        """Store a part of a text, if there is somebody to take it and room for it."""
        _, left, number, part = message
        person = self.home.with_number(number)
        if person is not None and self.store.has_room():
            self.store.put(person, self.home.number(link.person), part)
            link.tell(("stored",))
            self._page_for_texts(person)
        else:
            link.tell(("refused",))
        if left == 0:
            self._deliver(link)

    def _deliver(self, link):
        """Deliver the first part that is stored for the person of the link, or release the link."""
        pair = self.store.first(link.person)
        if pair is None:
            link.release()
            return
        number, part = pair
        link.tell(("deliver", number, part))
        link.purpose = "delivery"

    def _do(self, actions):
        """Do the actions in order."""
        for action in actions:
            kind = action[0]
            person = action[1]
            link = self._link_of(person)
            if kind == "page":
                self.pages.ask(person, "call")
            elif kind == "unpage":
                self.pages.take(person)
            elif link is not None and kind == "tell":
                link.tell(action[2])
            elif link is not None:
                link.release()

    def _page_for_texts(self, person):
        """Ask for a page for texts, if parts are stored for the person and nothing else is under way."""
        stored = self.store.many(person) > 0
        if stored and self.home.area(person) is not None and self._link_of(person) is None:
            if self.pages.reason(person) is None:
                self.pages.ask(person, "texts")

    def _link_of(self, person):
        """Return the network link of a person, or None."""
        for link in self.current:
            if link.person == person:
                return link
        return None

    def _linked(self):
        """Return the list of the persons that have a network link, in ascending order."""
        return sorted({link.person for link in self.current if link.person is not None})

    def _may_move(self, link):
        """Return True if a handover of the link is possible, otherwise False."""
        if link.released or link.second is not None or link.person is None:
            return False
        call = self.switch.call_of(link.person)
        return call is not None and call[2] == "active"

    def _move(self, link, tick):
        """Hold a second channel in the better cell, if one is free, and send the phone there."""
        cell = link.better
        channel = self.pool.free(cell, tick)
        if channel is None:
            return
        self.pool.hold(cell, channel, link.key, tick)
        link.second = (cell, channel)
        link.tell(("handover", cell, channel))
        link.forget_better()
