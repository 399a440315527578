"""The nodes of a network and their order, and what is a card of it."""

from acquit.money import is_number

SWITCH = ("switch",)


def acquirer_node(i):
    """Return the node of the acquirer at an index."""
    return ("acquirer", i)


def issuer_node(j):
    """Return the node of the issuer at an index."""
    return ("issuer", j)


def nodes_of(setup):
    """Return a new list of the nodes of a setup, in their order."""
    issuers, acquirers = setup[0], setup[1]
    houses = [acquirer_node(i) for i in range(len(acquirers))]
    return [SWITCH, *houses, *[issuer_node(j) for j in range(len(issuers))]]


def is_index(value, many):
    """Tell whether this is an index of a tuple or list of so many."""
    return is_number(value, 0, many - 1)


def is_pair(value):
    """Tell whether this is a tuple of two."""
    return isinstance(value, tuple) and len(value) == 2


def is_node(setup, node):
    """Tell whether this is a node of the setup, whatever it is."""
    if not is_pair(node):
        return node == SWITCH
    # A truth value equals a number, so looking it up among the nodes would let it pass.
    if node[0] == "acquirer":
        return is_index(node[1], len(setup[1]))
    return node[0] == "issuer" and is_index(node[1], len(setup[0]))


def is_card(setup, card):
    """Tell whether this is a card of a holder of the setup, whatever it is."""
    issuers = setup[0]
    return is_pair(card) and is_index(card[0], len(issuers)) and is_index(card[1], len(issuers[card[0]]))


def is_merchant(setup, acquirer, merchant):
    """Tell whether these are indexes of an acquirer and of a merchant of it."""
    acquirers = setup[1]
    return is_index(acquirer, len(acquirers)) and is_index(merchant, acquirers[acquirer])
