"""The state of a node, as it follows from its journal."""

from acquit.acquirer import Acquirer
from acquit.errors import NoSuch
from acquit.issuer import Issuer
from acquit.money import check_setup
from acquit.names import SWITCH, is_node
from acquit.switch import Switch


def rebuilt(setup, node, journal):
    """Return the state of a node that follows from a whole journal, as show of the network tells it."""
    check_setup(setup)
    if not is_node(setup, node):
        raise NoSuch()
    return state_of(setup, node, list(journal)).told()


def state_of(setup, node, entries):
    """Return the state of a node that follows from the entries, to which it will add its own."""
    state = _first_state(setup, node, entries)
    for entry in list(entries):
        state.apply(entry)
    return state


def _first_state(setup, node, entries):
    issuers, acquirers, share, fee = setup
    if node == SWITCH:
        return Switch(entries, setup)
    kind, index = node
    if kind == "acquirer":
        return Acquirer(entries, index, acquirers[index], share, fee)
    return Issuer(entries, issuers[index], share, fee)
