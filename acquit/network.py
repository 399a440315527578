"""The network: its nodes, the bag of messages between them, and what may be done to both."""

from acquit.errors import BadStage, NoSuch, Stopped
from acquit.money import MOST_AMOUNT, check_setup, is_number
from acquit.names import (
    SWITCH,
    acquirer_node,
    is_card,
    is_index,
    is_merchant,
    is_node,
    is_pair,
    issuer_node,
    nodes_of,
)
from acquit.node import state_of


class Network:
    """A switch, acquirers and issuers, whose messages lie in a bag until something is done to them."""

    def __init__(self, setup):
        check_setup(setup)
        self._setup = setup
        self._journals = {node: [] for node in nodes_of(setup)}
        # A node that is not up has None here: its journal is all that is left of it.
        self._states = {node: state_of(setup, node, self._journals[node]) for node in nodes_of(setup)}
        self._messages = {}
        self._given = 0

    def nodes(self):
        """Return the list of the nodes, in their order."""
        return nodes_of(self._setup)

    def is_up(self, node):
        """Tell whether a node is up."""
        self._check_node(node)
        return self._states[node] is not None

    def purchase(self, acquirer, merchant, card, amount):
        """Begin a purchase and return its name."""
        if not is_merchant(self._setup, acquirer, merchant) or not is_card(self._setup, card):
            raise NoSuch()
        if not is_number(amount, 1, MOST_AMOUNT):
            raise BadStage()
        return self._state_up(acquirer_node(acquirer)).ask(merchant, card, amount)

    def undo(self, name):
        """Begin to take a purchase back."""
        self._check_name(name)
        self._state_up(acquirer_node(name[0])).take_back(name[1])

    def close(self, acquirer):
        """File what an acquirer has granted; return the number of the file, or None."""
        if not is_index(acquirer, len(self._setup[1])):
            raise NoSuch()
        return self._state_up(acquirer_node(acquirer)).file_granted()

    def claim(self, name):
        """Claim a purchase back at the issuer of its card."""
        self._check_name(name)
        card = self._state(acquirer_node(name[0])).purchases[name[1]].card
        self._state_up(issuer_node(card[0])).claim_back(name)

    def fight(self, name):
        """Fight the claim of a purchase at its acquirer."""
        self._check_name(name)
        self._state_up(acquirer_node(name[0])).fight_back(name[1])

    def settle(self):
        """Make a cycle of what is to be settled; return its number, or None."""
        switch = self._state_up(SWITCH)
        cycle = switch.make_cycle()
        if cycle is not None:
            self._send_all(SWITCH, switch.settles(cycle))
        return cycle

    def tick(self, node):
        """Let a node send what is due."""
        self._check_node(node)
        state = self._states[node]
        if state is not None:
            self._send_all(node, state.due())

    def bag(self):
        """Return the list of the messages (number, sender, receiver, body), by the numbers."""
        return [(number, sender, receiver, body) for number, (sender, receiver, body) in self._messages.items()]

    def deliver(self, number):
        """Take a message out of the bag and let its receiver hear it, if that is up."""
        sender, receiver, body = self._take(number)
        state = self._states[receiver]
        if state is not None:
            self._send_all(receiver, state.hear(sender, body))

    def lose(self, number):
        """Take a message out of the bag."""
        self._take(number)

    def double(self, number):
        """Put a copy of a message into the bag and return the number of the copy."""
        self._check_number(number)
        sender, receiver, body = self._messages[number]
        return self._send(sender, receiver, body)

    def stop(self, node):
        """Leave nothing of a node but its journal."""
        self._check_node(node)
        self._states[node] = None

    def start(self, node):
        """Let a node go on from its journal."""
        self._check_node(node)
        self._states[node] = self._state(node)

    def round(self):
        """Let each node have a tick, then deliver what lies in the bag by then."""
        for node in self.nodes():
            self.tick(node)
        for number in list(self._messages):
            self.deliver(number)

    def journal(self, node):
        """Return the list of the entries of a node's journal."""
        self._check_node(node)
        return list(self._journals[node])

    def show(self, node):
        """Return the state of a node; of one that is not up that which follows from its journal."""
        self._check_node(node)
        return self._state(node).told()

    def spendable(self, card):
        """Return what the holder of a card can spend."""
        if not is_card(self._setup, card):
            raise NoSuch()
        return self._state(issuer_node(card[0])).free(card[1])

    def total(self):
        """Return the sum of all accounts of all nodes."""
        return sum([self._state(node).worth() for node in self.nodes()])

    def _check_node(self, node):
        if not is_node(self._setup, node):
            raise NoSuch()

    def _check_name(self, name):
        if not is_pair(name) or not is_index(name[0], len(self._setup[1])):
            raise NoSuch()
        if not is_index(name[1], len(self._state(acquirer_node(name[0])).purchases)):
            raise NoSuch()

    def _check_number(self, number):
        # The dict is asked last: it would take a truth value for a number, and fail at what has no hash.
        if not is_index(number, self._given) or number not in self._messages:
            raise NoSuch()

    def _state(self, node):
        state = self._states[node]
        if state is None:
            return state_of(self._setup, node, self._journals[node])
        return state

    def _state_up(self, node):
        state = self._states[node]
        if state is None:
            raise Stopped()
        return state

    def _take(self, number):
        self._check_number(number)
        message = self._messages[number]
        del self._messages[number]
        return message

    def _send(self, sender, receiver, body):
        number = self._given
        self._given += 1
        self._messages[number] = (sender, receiver, body)
        return number

    def _send_all(self, sender, messages):
        for receiver, body in messages:
            self._send(sender, receiver, body)
