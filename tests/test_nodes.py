"""Promises [1.1] to [1.4]: the nodes, cards and names, the accounts at first, the bag."""

import inspect
import itertools
import unittest

from acquit import network as network_module
from acquit import node as node_module
from acquit.errors import BadSetup, NoSuch
from acquit.network import Network
from acquit.node import rebuilt
from scenes import A0, A1, I0, I1, SETUP, SWITCH, lose_all, messages, network, numbers, rounds, run, snapshot

ISSUERS = (((0,),), ((5, 6, 7),), ((1,), (2, 3)), ((10**9, 0, 1), (4,)))
ACQUIRERS = ((1,), (3,), (1, 2), (3, 1))
BAD = (
    (), None, True, 0, "setup", SETUP[:3], (*SETUP, 0), (SETUP,),
    ((), (1,), 0, 0), (((),), (1,), 0, 0), (((1,), (1,), (1,)), (1,), 0, 0), (((1, 2, 3, 4),), (1,), 0, 0),
    (((-1,),), (1,), 0, 0), (((10**9 + 1,),), (1,), 0, 0), (((True,),), (1,), 0, 0), (((1,),), (), 0, 0),
    (((1,),), (1, 1, 1), 0, 0), (((1,),), (0,), 0, 0), (((1,),), (4,), 0, 0), (((1,),), (1,), -1, 0),
    (((1,),), (1,), 301, 400), (((1,),), (1,), 10, 9), (((1,),), (1,), 10, 501), (((1,),), ("1",), 10, 20),
)
METHODS = {
    "nodes": (), "is_up": ("node",), "purchase": ("acquirer", "merchant", "card", "amount"), "undo": ("name",),
    "close": ("acquirer",), "claim": ("name",), "fight": ("name",), "settle": (), "tick": ("node",), "bag": (),
    "deliver": ("number",), "lose": ("number",), "double": ("number",), "stop": ("node",), "start": ("node",),
    "round": (), "journal": ("node",), "show": ("node",), "spendable": ("card",), "total": (),
}


class InterfaceTest(unittest.TestCase):
    def test_methods_stand_in_the_class_with_their_arguments(self):
        for name, arguments in METHODS.items():
            with self.subTest(name=name):
                method = vars(Network)[name]
                self.assertEqual(tuple(inspect.signature(method).parameters), ("self", *arguments))
                self.assertEqual(method.__qualname__, "Network." + name)
        self.assertEqual(tuple(inspect.signature(Network).parameters), ("setup",))
        self.assertEqual(tuple(inspect.signature(rebuilt).parameters), ("setup", "node", "journal"))

    def test_what_is_listed_is_defined_in_its_file(self):
        self.assertEqual(network_module.Network.__module__, "acquit.network")
        self.assertEqual(node_module.rebuilt.__module__, "acquit.node")

    def test_bad_setups(self):
        for setup in BAD:
            with self.subTest(setup=setup):
                with self.assertRaises(BadSetup):
                    Network(setup)
                for node in (SWITCH, A0, I0, ("acquirer", 9), "switch", 5):
                    with self.assertRaises(BadSetup):
                        rebuilt(setup, node, [])

    def test_the_bounds_of_setups(self):
        for share, fee in ((0, 0), (0, 500), (300, 300), (300, 500)):
            setup = (((0, 10**9),), (1,), share, fee)
            self.assertEqual(Network(setup).total(), 10**9)


class NodesTest(unittest.TestCase):
    def test_order(self):
        for issuers, acquirers in itertools.product(ISSUERS, ACQUIRERS):
            net = network((issuers, acquirers, 0, 0))
            houses = [("acquirer", i) for i in range(len(acquirers))] + [("issuer", j) for j in range(len(issuers))]
            self.assertEqual(net.nodes(), [("switch",)] + houses)

    def test_all_are_up(self):
        net = network()
        self.assertEqual([net.is_up(node) for node in net.nodes()], [True] * 5)

    def test_the_list_is_new(self):
        net = network()
        net.nodes().clear()
        self.assertEqual(net.nodes(), [SWITCH, A0, A1, I0, I1])

    def test_what_they_have_at_first(self):
        for issuers, acquirers in itertools.product(ISSUERS, ACQUIRERS):
            net = network((issuers, acquirers, 20, 30))
            self.assertEqual(net.show(SWITCH), ((), (), (), ()))
            for i, many in enumerate(acquirers):
                self.assertEqual(net.show(("acquirer", i)), (((0,) * many, 0, 0), (), (), ()))
            for j, holders in enumerate(issuers):
                self.assertEqual(net.show(("issuer", j)), ((holders, 0, 0), (), ()))
                for h, amount in enumerate(holders):
                    self.assertEqual(net.spendable((j, h)), amount)
            self.assertEqual(net.total(), sum(map(sum, issuers)))
            self.assertEqual(net.bag(), [])
            self.assertIsNone(net.settle())

    def test_networks_are_apart_from_each_other(self):
        one, other = network(), network()
        before = snapshot(other)
        one.purchase(0, 0, (0, 0), 5)
        one.stop(I0)
        one.round()
        self.assertEqual(snapshot(other), before)

    def test_the_setup_stays_as_it_was(self):
        setup = (((5000, 300), (2000,)), (2, 1), 100, 250)
        net = network(setup)
        net.purchase(0, 0, (0, 0), 5)
        rounds(net)
        self.assertEqual(setup, SETUP)


class NamesTest(unittest.TestCase):
    def test_names_count_from_0_for_each_acquirer(self):
        net = network()
        told = [net.purchase(i, 0, (0, 0), 1) for i in (0, 1, 0, 0, 1)]
        self.assertEqual(told, [(0, 0), (1, 0), (0, 1), (0, 2), (1, 1)])

    def test_each_merchant_and_card_that_is_there(self):
        net = network()
        for i, m in ((0, 0), (0, 1), (1, 0)):
            for card in ((0, 0), (0, 1), (1, 0)):
                name = net.purchase(i, m, card, 1)
                self.assertEqual(net.show(("acquirer", i))[1][name[1]], (m, card, 1, "asked", False))

    def test_a_refused_purchase_takes_no_number(self):
        net = network()
        with self.assertRaises(NoSuch):
            net.purchase(0, 2, (0, 0), 1)
        self.assertEqual(net.purchase(0, 1, (0, 0), 1), (0, 0))


class BagTest(unittest.TestCase):
    def asked(self, many=3):
        net = network()
        for amount in range(1, many + 1):
            net.purchase(0, 0, (0, 0), amount)
        net.tick(A0)
        return net

    def test_a_message_has_a_number_a_sender_a_receiver_and_a_body(self):
        net = self.asked(2)
        self.assertEqual(net.bag(), [
            (0, A0, SWITCH, ("ask", (0, 0), (0, 0), 1)),
            (1, A0, SWITCH, ("ask", (0, 1), (0, 0), 2)),
        ])

    def test_the_list_is_new(self):
        net = self.asked()
        net.bag().clear()
        self.assertEqual(numbers(net), [0, 1, 2])

    def test_numbers_rise_in_the_order_of_sending_and_never_come_back(self):
        net = self.asked()
        self.assertIsNone(net.deliver(1))
        self.assertEqual(net.bag()[-1], (3, SWITCH, I0, ("ask", (0, 1), (0, 0), 2)))
        self.assertEqual(numbers(net), [0, 2, 3])
        self.assertIsNone(net.lose(3))
        self.assertEqual(numbers(net), [0, 2])
        net.tick(A0)
        self.assertEqual(numbers(net), [0, 2, 4, 5, 6])
        lose_all(net)
        net.tick(A0)
        self.assertEqual(numbers(net), [7, 8, 9])

    def test_a_message_that_is_delivered_or_lost_is_gone(self):
        for take in ("deliver", "lose"):
            net = self.asked()
            getattr(net, take)(1)
            before = snapshot(net)
            for again in ("deliver", "lose", "double"):
                with self.assertRaises(NoSuch):
                    getattr(net, again)(1)
            self.assertEqual(snapshot(net), before)

    def test_a_lost_message_does_nothing_more(self):
        net = self.asked(1)
        before = [net.show(node) for node in net.nodes()]
        net.lose(0)
        self.assertEqual(net.bag(), [])
        self.assertEqual([net.show(node) for node in net.nodes()], before)

    def test_a_copy_has_the_next_number_that_was_not_given_yet(self):
        net = self.asked()
        self.assertEqual(net.double(0), 3)
        self.assertEqual(net.double(3), 4)
        self.assertEqual(net.double(1), 5)
        self.assertEqual([message[1:] for message in net.bag()[3:]], [net.bag()[0][1:]] * 2 + [net.bag()[1][1:]])
        net.lose(5)
        self.assertEqual(net.double(2), 6)
        self.assertEqual(numbers(net), [0, 1, 2, 3, 4, 6])

    def test_a_copy_outlives_its_message(self):
        net = self.asked(1)
        copy = net.double(0)
        net.lose(0)
        net.deliver(copy)
        self.assertEqual(messages(net), [(SWITCH, I0, ("ask", (0, 0), (0, 0), 1))])

    def test_doubling_and_losing_change_no_journal(self):
        net = self.asked()
        journals = [net.journal(node) for node in net.nodes()]
        net.double(0)
        net.lose(0)
        net.lose(3)
        self.assertEqual([net.journal(node) for node in net.nodes()], journals)

    def test_more_than_a_hundred_messages_lie_by_their_numbers(self):
        net = self.asked(120)
        for number in (0, 50, 7, 119):
            net.double(number)
            net.lose(number)
        self.assertEqual(numbers(net), [n for n in range(124) if n not in (0, 7, 50, 119)])

    def test_nothing_is_sent_but_at_ticks_and_deliveries_and_by_settle(self):
        net = network()
        one, other = net.purchase(0, 0, (0, 0), 100), net.purchase(0, 0, (0, 0), 100)
        self.assertEqual(net.bag(), [])
        run(net, A0)
        net.undo(other)
        self.assertEqual(net.close(0), 0)
        self.assertEqual(net.bag(), [])
        run(net, A0)
        run(net, A0)
        net.claim(one)
        self.assertEqual(net.bag(), [])
        run(net, I0)
        net.fight(one)
        net.stop(A0)
        net.start(A0)
        self.assertEqual(net.bag(), [])

    def test_the_switch_stands_at_one_end_of_each_message(self):
        net = network()
        net.purchase(0, 1, (1, 0), 100)
        net.purchase(1, 0, (0, 1), 100)
        for deed in (None, lambda: net.close(0), lambda: net.close(1), lambda: net.claim((0, 0)), net.settle):
            if deed:
                deed()
            for _ in range(8):
                net.round()
                for _, sender, receiver, _ in net.bag():
                    self.assertEqual([sender, receiver].count(SWITCH), 1)


class WaysTest(unittest.TestCase):
    """Each message, the two houses being neither the first ones nor of the same index."""

    def next_way(self, net):
        """Deliver the only message; tell the only one that is sent then."""
        (number, _, _, _), = net.bag()
        net.deliver(number)
        message, = messages(net)
        return message

    def ways(self, acquirer, card):
        net = network()
        node, issuer = ("acquirer", acquirer), ("issuer", card[0])
        name = net.purchase(acquirer, 0, card, 100)
        net.tick(node)
        ask, answer = ("ask", name, card, 100), ("answer", name, True)
        self.assertEqual(messages(net), [(node, SWITCH, ask)])
        self.assertEqual(self.next_way(net), (SWITCH, issuer, ask))
        self.assertEqual(self.next_way(net), (issuer, SWITCH, answer))
        self.assertEqual(self.next_way(net), (SWITCH, node, answer))
        run(net)
        net.close(acquirer)
        self.file(net, node, issuer, name)
        net.claim(name)
        net.tick(issuer)
        self.there_and_back(net, issuer, node, ("claim", name), ("claimed", name, card[0]))
        net.fight(name)
        net.tick(node)
        self.there_and_back(net, node, issuer, ("fight", name, card[0]), ("fought", name))

    def file(self, net, node, issuer, name):
        i, j = node[1], issuer[1]
        row = net.show(node)[1][name[1]]
        rows = ((name, row[1], row[2]),)
        net.tick(node)
        self.assertEqual(messages(net), [(node, SWITCH, ("file", i, 0, rows))])
        self.assertEqual(self.next_way(net), (SWITCH, issuer, ("post", i, 0, j, rows)))
        self.assertEqual(self.next_way(net), (issuer, SWITCH, ("posted", i, 0, j)))
        run(net)
        net.tick(node)
        self.assertEqual(self.next_way(net), (SWITCH, node, ("filed", i, 0)))
        run(net)

    def there_and_back(self, net, one, other, word, answer):
        self.assertEqual(messages(net), [(one, SWITCH, word)])
        self.assertEqual(self.next_way(net), (SWITCH, other, word))
        self.assertEqual(self.next_way(net), (other, SWITCH, answer))
        self.assertEqual(self.next_way(net), (SWITCH, one, answer))
        run(net)

    def test_all_ways(self):
        for acquirer, card in itertools.product((0, 1), ((0, 0), (0, 1), (1, 0))):
            with self.subTest(acquirer=acquirer, card=card):
                self.ways(acquirer, card)

    def test_the_ways_of_an_undo(self):
        for acquirer, card in itertools.product((0, 1), ((0, 0), (0, 1), (1, 0))):
            net = network()
            node, issuer = ("acquirer", acquirer), ("issuer", card[0])
            name = net.purchase(acquirer, 0, card, 100)
            net.undo(name)
            net.tick(node)
            self.there_and_back(net, node, issuer, ("undo", name, card), ("undone", name))


if __name__ == "__main__":
    unittest.main()
