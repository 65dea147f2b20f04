"""What the test files of the network share: networks to try, ways into some states, and all answers at once."""

from mobileair.network import Network
from tests.helpers import ProgramTest


def digits_of(phone):
    return str(100000 + phone)


def number_of(phone):
    return str(10 + phone)


def built(levels, sizes=None, areas=None, on=True):
    """A network of phones, each with its levels in the cells; each cell has six channels and an area of its own."""
    cells = len(levels[0])
    network = Network(sizes or [6] * cells, areas or list(range(cells)))
    for phone, row in enumerate(levels):
        network.add_phone(digits_of(phone), number_of(phone))
        for cell, level in enumerate(row):
            network.set_level(phone, cell, level)
    for phone in range(len(levels)):
        if on:
            network.power(phone, True)
    return network


def settled(levels, sizes=None, areas=None):
    """Such a network in which each phone knows its area and nothing is under way."""
    network = built(levels, sizes, areas)
    settle(network, len(levels))
    return network


def settle(network, phones):
    """Do ticks until nothing is under way any more, and all channels are free."""
    for _ in range(40):
        network.tick(10)
        if not network.links() and not any(network.wants(phone) for phone in range(phones)):
            network.tick(12)
            return
    raise AssertionError("the network does not settle")


def talk(network, caller, called):
    """Bring two phones into a call, on clear air, and a few ticks further on."""
    network.dial(caller, number_of(called))
    for _ in range(30):
        if network.call_state(called) == "ringing":
            break
        network.tick()
    network.answer(called)
    network.tick(6)


def talking(levels, sizes=None, areas=None):
    """A network in which phone 0 has called phone 1, and both are active."""
    network = settled(levels, sizes, areas)
    talk(network, 0, 1)
    return network


def occupied(**more):
    """A network whose cell 0 has one channel, held by phone 0 in a call with phone 2; phone 1 camps there, too.

    Phones 2 and 3 are in cell 1, which has room; both cells lie in area 0.
    """
    network = settled([[30, 0], [30, 0], [0, 30], [0, 30]], [1, 6], [0, 0])
    talk(network, 0, 2)
    return network


def all_answers(network, phones):
    """What the network answers to all questions."""
    cells = 0
    states = []
    for cell in range(4):
        for channel in range(6):
            try:
                states.append(network.channel_state(cell, channel))
                cells = cell + 1
            except ValueError:
                states.append(None)
    rows = [network.ticks, network.links(), network.calls(), network.lines(), states, cells]
    for phone in range(phones):
        rows.append([
            network.is_on(phone), network.camp(phone), network.channel(phone), network.known_area(phone),
            network.wants(phone), network.call_state(phone), network.call_cause(phone), network.words_said(phone),
            network.words_heard(phone), network.outbox(phone), network.texts(phone), network.area(phone),
            network.page(phone), network.stored(phone), network.units(phone),
        ])
    return rows


class NetworkTest(ProgramTest):
    def assert_states(self, network, *states):
        self.assertEqual([network.call_state(phone) for phone in range(len(states))], list(states))

    def assert_talking(self, network, caller, called):
        self.assertIn((caller, called, "active"), network.calls())
        self.assertEqual([network.call_state(caller), network.call_state(called)], ["active", "active"])

    def assert_ticks(self, network, question, *wanted):
        """The answers to a question behind each of the next ticks."""
        found = []
        for _ in wanted:
            network.tick()
            found.append(question())
        self.assertEqual(found, list(wanted))

    def first_tick(self, network, condition, most=60):
        """Do ticks until a condition holds; return the number of the tick behind which it did."""
        for _ in range(most):
            network.tick()
            if condition():
                return network.ticks - 1
        raise AssertionError("it does not come to this")
