"""What the tests of the network share: a setup, short ways to a stage, and ways to look."""

from acquit.network import Network

# A purchase of 1000 has p = 10 and f = 25: 975 to the merchant, 15 to the acquirer, 990 cleared.
SETUP = (((5000, 300), (2000,)), (2, 1), 100, 250)
SWITCH = ("switch",)
A0, A1 = ("acquirer", 0), ("acquirer", 1)
I0, I1 = ("issuer", 0), ("issuer", 1)


def snapshot(net):
    """All that can be seen of a network."""
    nodes = net.nodes()
    seen = [(net.is_up(node), net.journal(node), net.show(node)) for node in nodes]
    return (nodes, seen, net.bag(), net.total())


def shows(net):
    return [net.show(node) for node in net.nodes()]


def messages(net):
    """The messages without their numbers."""
    return [message[1:] for message in net.bag()]


def numbers(net):
    return [message[0] for message in net.bag()]


def lose_all(net):
    for number in numbers(net):
        net.lose(number)


def lose_all_but(net, kept):
    for number in numbers(net):
        if number != kept:
            net.lose(number)


def step(net):
    """Deliver what lies in the bag; tell what lies in it then."""
    for number in numbers(net):
        net.deliver(number)
    return messages(net)


def run(net, *ticking):
    """Let nodes have a tick, deliver until the bag is empty."""
    for node in ticking:
        net.tick(node)
    while net.bag():
        step(net)


def run_but(net, kept, *ticking):
    """The same, but one message stays in the bag."""
    for node in ticking:
        net.tick(node)
    while numbers(net) != [kept]:
        for number in numbers(net):
            if number != kept:
                net.deliver(number)


def rounds(net, many=8):
    for _ in range(many):
        net.round()


def at_acquirer(net, name):
    """The row (merchant, card, amount, stage, confirmed) of a purchase."""
    return net.show(("acquirer", name[0]))[1][name[1]]


def stage(net, name):
    return at_acquirer(net, name)[3]


def at_issuer(net, name):
    """The row (name, holder, amount, stage, confirmed) of a purchase, or None."""
    rows = [row for j in range(2) if ("issuer", j) in net.nodes() for row in net.show(("issuer", j))[1]]
    rows = [row for row in rows if row[0] == name]
    return rows[0] if rows else None


def issuer_stage(net, name):
    row = at_issuer(net, name)
    return row and row[3]


def both(net, name):
    """The stages at the acquirer and at the issuer."""
    return (stage(net, name), issuer_stage(net, name))


def accounts(net, node):
    return net.show(node)[0]


def granted(net, card=(0, 0), amount=1000, acquirer=0, merchant=0):
    name = net.purchase(acquirer, merchant, card, amount)
    run(net, ("acquirer", acquirer))
    assert both(net, name) == ("granted", "held")
    return name


def granted_alone(net, card=(0, 0), amount=1000, acquirer=0, merchant=0):
    """The same, but whatever else the acquirer sends meanwhile is lost."""
    name = net.purchase(acquirer, merchant, card, amount)
    assert not net.bag()
    grant_alone(net, name)
    return name


def grant_alone(net, name):
    net.tick(("acquirer", name[0]))
    for number, _, _, body in net.bag():
        if body[:2] != ("ask", name):
            net.lose(number)
    run(net)
    assert both(net, name) == ("granted", "held")


def posted(net, card=(0, 0), amount=1000, acquirer=0, merchant=0):
    """A purchase that is posted, while its acquirer has not heard so."""
    name = granted(net, card, amount, acquirer, merchant)
    net.close(acquirer)
    run(net, ("acquirer", acquirer))
    assert both(net, name) == ("filed", "posted")
    return name


def paid(net, card=(0, 0), amount=1000, acquirer=0, merchant=0):
    name = posted(net, card, amount, acquirer, merchant)
    run(net, ("acquirer", acquirer))
    assert both(net, name) == ("paid", "posted")
    return name


def claimed(net, card=(0, 0), amount=1000, acquirer=0, merchant=0):
    name = paid(net, card, amount, acquirer, merchant)
    net.claim(name)
    run(net, ("issuer", card[0]))
    assert both(net, name) == ("claimed", "claimed")
    return name


def fought(net, card=(0, 0), amount=1000, acquirer=0, merchant=0):
    name = claimed(net, card, amount, acquirer, merchant)
    net.fight(name)
    run(net, ("acquirer", acquirer))
    assert both(net, name) == ("fought", "fought")
    return name


def network(setup=SETUP):
    return Network(setup)
