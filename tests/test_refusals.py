"""The errors of the interface: what is refused, by which class, and which goes first."""

import itertools
import unittest

from acquit.errors import BadStage, NoSuch, Stopped
from scenes import (
    A0, A1, I0, I1, SWITCH, both, claimed, fought, granted, granted_alone, lose_all, network, numbers, paid, posted, rounds,
    run, snapshot,
)

NO_NODES = (
    "switch", "", "acquirer", (), ("switch", 0), ("switch", "switch"), (("switch",),), ("acquirer",), ("issuer",),
    ("acquirer", 2), ("acquirer", -1), ("issuer", 2), ("issuer", -1), ("issuer", 10**30), ("acquirer", "0"),
    ("acquirer", (0,)), ("acquirer", 0, 0), (0, "acquirer"), (0, 0), ("Switch",), ("merchant", 0), 0, 1, -1,
    ("acquirer", ()), ("", 0), ((), ()), ("acquirer", ("acquirer", 0)),
)
NO_INDEXES = (-1, -2, 3, 10**30, "", "0", "a", (), (0,), (0, 0))
NO_CARDS = (
    (), (0,), (0, 0, 0), (0, 2), (1, 1), (2, 0), (-1, 0), (0, -1), (10**30, 0), (0, 10**30), "", "00", 0, 1, -1,
    ("0", 0), (0, "0"), ((0, 0),), ((0,), 0), (0, (0,)), ((), ()), ("", ""),
)
NO_NAMES = (
    (), (0,), (0, 0, 0), (0, 99), (1, 99), (2, 0), (-1, 0), (0, -1), (-1, -1), (10**30, 0), (0, 10**30), "", "00", 0,
    -1, ("0", 0), (0, "0"), ((0, 0),), ((0,), 0), (0, (0,)), ((), ()), ("acquirer", 0), (0, 10), (1, 0),
)
NO_AMOUNTS = (0, -1, -(10**9), 10**9 + 1, 10**30, "", "1", "x", (), (1,), (1, 2))
NO_NUMBERS = (-1, 10**30, "", "0", (), (0,), (0, 0), "x")
STAGES = ("asked", "granted", "refused", "undoing", "undone", "filed", "paid", "claimed", "fought")


def scene():
    """A network with a purchase of acquirer 0 and card (0, 0) in each stage, and their names by the stages."""
    net = network()
    names = {}
    names["fought"], names["claimed"] = fought(net, (0, 0), 10), claimed(net, (0, 0), 10)
    names["paid, claimed there"], names["paid"] = paid(net, (0, 0), 10), paid(net, (0, 0), 10)
    names["undone"] = granted(net, (0, 0), 10)
    net.undo(names["undone"])
    names["refused"] = net.purchase(0, 0, (0, 0), 5001)
    run(net, A0)
    names["filed"] = posted(net, (0, 0), 10)
    names["granted"], names["undoing"] = granted_alone(net, (0, 0), 10), granted_alone(net, (0, 0), 10)
    net.undo(names["undoing"])
    net.claim(names["paid, claimed there"])
    names["asked"] = net.purchase(0, 0, (0, 0), 10)
    lose_all(net)
    for stage in STAGES:
        assert net.show(A0)[1][names[stage][1]][3] == stage
    return net, names


class RefusalTest(unittest.TestCase):
    def refused(self, net, error, deed, *arguments):
        """A call is refused by exactly this class, without arguments, and changes nothing."""
        before = snapshot(net)
        with self.subTest(deed=deed, arguments=arguments):
            with self.assertRaises(ValueError) as caught:
                getattr(net, deed)(*arguments)
            self.assertIs(type(caught.exception), error)
            self.assertEqual(caught.exception.args, ())
            self.assertEqual(snapshot(net), before)

    def all_down(self, net):
        for node in net.nodes():
            net.stop(node)

    def test_nodes_that_are_none(self):
        net, _ = scene()
        deeds = ("is_up", "tick", "stop", "start", "journal", "show")
        for node, deed in itertools.product(NO_NODES, deeds):
            self.refused(net, NoSuch, deed, node)
        self.all_down(net)
        for node, deed in itertools.product(NO_NODES, deeds):
            self.refused(net, NoSuch, deed, node)

    def test_networks_of_one_and_two_houses(self):
        for issuers, acquirers in ((1, 1), (1, 2), (2, 1)):
            net = network((((9, 9),) * issuers, (2,) * acquirers, 0, 0))
            for i, j in itertools.product(range(acquirers), range(issuers)):
                name = granted(net, (j, 1), 1, i, 1)
                self.assertEqual(net.close(i), j)
                rounds(net)
                self.assertIsNone(net.claim(name))
            for deed in ("show", "stop"):
                self.refused(net, NoSuch, deed, ("acquirer", acquirers))
                self.refused(net, NoSuch, deed, ("issuer", issuers))
            for deed in ("undo", "claim", "fight"):
                self.refused(net, NoSuch, deed, (acquirers, 0))
            self.refused(net, NoSuch, "close", acquirers)
            self.refused(net, NoSuch, "purchase", acquirers, 0, (0, 0), 1)
            self.refused(net, NoSuch, "purchase", 0, 0, (issuers, 0), 1)
            self.refused(net, NoSuch, "spendable", (issuers, 0))

    def test_merchants_and_holders_of_each_house(self):
        net = network((((9,), (9, 9, 9)), (3, 1), 0, 0))
        for i, m in ((0, 3), (1, 1)):
            self.refused(net, NoSuch, "purchase", i, m, (0, 0), 1)
        for card in ((0, 1), (1, 3)):
            self.refused(net, NoSuch, "purchase", 0, 0, card, 1)
            self.refused(net, NoSuch, "spendable", card)
        self.assertEqual(net.purchase(0, 2, (1, 2), 1), (0, 0))
        self.assertEqual(net.spendable((1, 2)), 9)

    def test_what_only_equals_what_is_there(self):
        net, names = scene()
        net.tick(A0)
        net.tick(A0)
        for number in (True, False, None, [0]):
            for deed in ("deliver", "lose", "double"):
                self.refused(net, NoSuch, deed, number)
            self.refused(net, NoSuch, "close", number)
            self.refused(net, NoSuch, "undo", (number, names["granted"][1]))
            self.refused(net, NoSuch, "undo", (0, number))
            self.refused(net, NoSuch, "show", ("acquirer", number))
            self.refused(net, NoSuch, "spendable", (0, number))
            self.refused(net, NoSuch, "purchase", 0, number, (0, 0), 1)
            self.refused(net, BadStage, "purchase", 0, 0, (0, 0), number)
        for node in (["switch"], ["acquirer", 0]):
            self.refused(net, NoSuch, "show", node)

    def test_cards_that_are_none(self):
        net, _ = scene()
        for card in NO_CARDS:
            self.refused(net, NoSuch, "spendable", card)
            self.refused(net, NoSuch, "purchase", 0, 0, card, 1)

    def test_acquirers_and_merchants_that_are_none(self):
        net, _ = scene()
        for index in (*NO_INDEXES, 2):
            self.refused(net, NoSuch, "purchase", index, 0, (0, 0), 1)
            self.refused(net, NoSuch, "purchase", 0, index, (0, 0), 1)
            self.refused(net, NoSuch, "close", index)
        self.refused(net, NoSuch, "purchase", 1, 1, (0, 0), 1)

    def test_amounts_that_are_none(self):
        net, _ = scene()
        for amount in NO_AMOUNTS:
            self.refused(net, BadStage, "purchase", 0, 0, (0, 0), amount)
        self.assertEqual(net.purchase(1, 0, (0, 0), 1), (1, 0))
        self.assertEqual(net.purchase(1, 0, (0, 0), 10**9), (1, 1))

    def test_names_that_are_none(self):
        net, _ = scene()
        for name in NO_NAMES:
            for deed in ("undo", "claim", "fight"):
                self.refused(net, NoSuch, deed, name)

    def test_the_next_name_is_none_yet(self):
        net = network()
        for deed in ("undo", "claim", "fight"):
            self.refused(net, NoSuch, deed, (0, 0))
        net.purchase(0, 0, (0, 0), 1)
        for deed in ("undo", "claim", "fight"):
            self.refused(net, NoSuch, deed, (0, 1))
            self.refused(net, NoSuch, deed, (1, 0))

    def test_numbers_that_are_none(self):
        net = network()
        for deed in ("deliver", "lose", "double"):
            self.refused(net, NoSuch, deed, 0)
        net.purchase(0, 0, (0, 0), 1)
        net.tick(A0)
        net.tick(A0)
        net.lose(0)
        for number in (*NO_NUMBERS, 0, 2):
            for deed in ("deliver", "lose", "double"):
                self.refused(net, NoSuch, deed, number)
        self.assertEqual(numbers(net), [1])

    def test_wrong_stages(self):
        net, names = scene()
        good = {
            "undo": ("asked", "granted"), "claim": ("filed", "paid"), "fight": ("claimed",),
        }
        for deed, stages in good.items():
            for stage, name in names.items():
                if stage not in stages:
                    self.refused(net, BadStage, deed, name)
        for deed, stages in good.items():
            for stage in stages:
                self.assertIsNone(getattr(net, deed)(names[stage]))
                self.refused(net, BadStage, deed, names[stage])

    def test_a_claim_of_what_the_issuer_has_not_heard_of(self):
        net, names = scene()
        self.assertEqual(both(net, names["asked"]), ("asked", None))
        self.refused(net, BadStage, "claim", names["asked"])

    def test_a_purchase_that_is_none_goes_before_a_wrong_amount_and_a_stopped_acquirer(self):
        for down in (False, True):
            net, _ = scene()
            if down:
                self.all_down(net)
            for amount in (1, 0, "x"):
                self.refused(net, NoSuch, "purchase", 2, 0, (0, 0), amount)
                self.refused(net, NoSuch, "purchase", 0, 2, (0, 0), amount)
                self.refused(net, NoSuch, "purchase", 0, 0, (0, 2), amount)

    def test_a_wrong_amount_goes_before_a_stopped_acquirer(self):
        net, _ = scene()
        net.stop(A0)
        for amount in NO_AMOUNTS:
            self.refused(net, BadStage, "purchase", 0, 0, (0, 0), amount)
        self.refused(net, Stopped, "purchase", 0, 0, (0, 0), 1)
        self.assertEqual(net.purchase(1, 0, (0, 0), 1), (1, 0))

    def test_undo_none_then_stopped_then_stage(self):
        net, names = scene()
        net.stop(A0)
        for name in NO_NAMES:
            self.refused(net, NoSuch, "undo", name)
        for name in names.values():
            self.refused(net, Stopped, "undo", name)

    def test_close_none_then_stopped(self):
        net, _ = scene()
        self.all_down(net)
        for index in (*NO_INDEXES, 2):
            self.refused(net, NoSuch, "close", index)
        self.refused(net, Stopped, "close", 0)
        net.start(A0)
        self.refused(net, Stopped, "close", 1)
        self.assertEqual(net.close(0), 5)

    def test_a_stopped_acquirer_with_nothing_to_file(self):
        net = network()
        net.stop(A1)
        self.refused(net, Stopped, "close", 1)
        self.assertIsNone(net.close(0))

    def test_claim_none_then_stopped_then_stage(self):
        net, names = scene()
        net.stop(I0)
        for name in NO_NAMES:
            self.refused(net, NoSuch, "claim", name)
        for name in names.values():
            self.refused(net, Stopped, "claim", name)

    def test_a_claim_asks_for_the_issuer_of_the_card_alone(self):
        net, names = scene()
        other = posted(net, (1, 0), 10, 1)
        for node in (A0, A1, I1, SWITCH):
            net.stop(node)
        for name in NO_NAMES[:-1]:
            self.refused(net, NoSuch, "claim", name)
        self.refused(net, Stopped, "claim", other)
        self.refused(net, BadStage, "claim", names["granted"])
        self.assertIsNone(net.claim(names["paid"]))

    def test_fight_none_then_stopped_then_stage(self):
        net, names = scene()
        net.stop(A0)
        for name in NO_NAMES:
            self.refused(net, NoSuch, "fight", name)
        for name in names.values():
            self.refused(net, Stopped, "fight", name)

    def test_a_fight_asks_for_the_acquirer_alone(self):
        net, names = scene()
        for node in (A1, I0, I1, SWITCH):
            net.stop(node)
        self.assertIsNone(net.fight(names["claimed"]))
        self.assertIsNone(net.undo(names["granted"]))

    def test_settle_stopped(self):
        net, _ = scene()
        for node in (A0, A1, I0, I1):
            net.stop(node)
        self.assertEqual(net.settle(), 0)
        net.stop(SWITCH)
        self.refused(net, Stopped, "settle")


if __name__ == "__main__":
    unittest.main()
