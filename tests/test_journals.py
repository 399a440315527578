"""Promise [6.1] and rebuilt: journals, stopped and started nodes."""

import unittest

from acquit.errors import BadSetup, NoSuch, Stopped
from acquit.node import rebuilt
from scenes import (
    A0, A1, I0, I1, SETUP, SWITCH, accounts, at_issuer, both, claimed, fought, granted, lose_all, messages, network,
    numbers, paid, posted, run, rounds, shows, snapshot, stage, step,
)

PLAIN = (str, int, bool, type(None), tuple)


def journals(net):
    return [net.journal(node) for node in net.nodes()]


def is_plain(entry):
    return type(entry) in PLAIN and (type(entry) is not tuple or all(is_plain(part) for part in entry))


def story(net):
    """Deeds that bring a network through all stages; yields behind each."""
    names = []
    for card, amount, acquirer in (
        ((0, 0), 1000, 0), ((1, 0), 500, 0), ((0, 1), 300, 1), ((0, 1), 1, 1), ((1, 0), 1500, 0), ((0, 0), 7, 1),
        ((1, 0), 1, 0),
    ):
        names.append(net.purchase(acquirer, 0, card, amount))
        yield
    yield from spread(net, A0, A1)
    net.undo(names[1])
    yield
    net.undo(names[5])
    yield
    yield from spread(net, A1, A0)
    for _ in range(2):
        net.close(0)
        yield
        net.close(1)
        yield
        yield from spread(net, A0, A1, SWITCH)
        yield from spread(net, A0, A1)
        net.purchase(0, 1, (1, 0), 20)
        yield
        yield from spread(net, A0)
    for name in (names[0], names[2], names[4]):
        net.claim(name)
        yield
    yield from spread(net, I0, I1, I0)
    net.settle()
    yield
    yield from spread(net, SWITCH, SWITCH)
    granted(net, (0, 1), 1)
    yield
    for name in (names[2], names[0]):
        net.fight(name)
        yield
    yield from spread(net, A0, A1, A0)
    net.settle()
    yield
    yield from spread(net)


def spread(net, *ticking):
    """Ticks, then all deliveries, each of the first ones of a round doubled."""
    for node in ticking:
        net.tick(node)
        yield
    while net.bag():
        net.double(numbers(net)[0])
        for number in numbers(net):
            net.deliver(number)
            yield


class JournalTest(unittest.TestCase):
    def test_journals_are_empty_at_first(self):
        self.assertEqual(journals(network()), [[]] * 5)

    def test_entries_are_plain(self):
        net = network()
        for _ in story(net):
            pass
        for journal in journals(net):
            self.assertGreater(len(journal), 5)
            self.assertIs(type(journal), list)
            self.assertEqual([entry for entry in journal if not is_plain(entry)], [])

    def test_journals_only_grow(self):
        net = network()
        before = journals(net)
        for _ in story(net):
            after = journals(net)
            for old, new in zip(before, after):
                self.assertEqual(new[:len(old)], old)
            before = after

    def test_the_list_is_new(self):
        net = network()
        paid(net)
        state, journal = shows(net), journals(net)
        for node in net.nodes():
            net.journal(node).clear()
            net.journal(node).append(("paid", 0))
        self.assertEqual(journals(net), journal)
        for node in net.nodes():
            net.stop(node)
            net.start(node)
        self.assertEqual(shows(net), state)

    def test_what_comes_again_is_not_written_again(self):
        net = network()
        name, other, refused = [net.purchase(0, 0, (0, 1), amount) for amount in (200, 100, 301)]
        run(net, A0, A0, A0)
        net.undo(other)
        run(net, A0, A0, A0)
        net.close(0)
        net.tick(A0)
        step(net)
        run(net, SWITCH, SWITCH, A0)
        run(net, A0, A0, A0)
        net.claim(name)
        run(net, I0, I0, I0)
        self.assertIsNone(net.settle())
        net.fight(name)
        run(net, A0, A0, A0)
        net.settle()
        run(net, SWITCH, SWITCH)
        self.assertEqual([both(net, told)[0] for told in (name, other, refused)], ["fought", "undone", "refused"])
        for journal in journals(net):
            self.assertEqual(len(journal), len(set(journal)))
        # An issuer that posts nothing writes nothing.
        self.assertEqual([entry[0] for entry in net.journal(I0)], [
            "held", "held", "refused", "undone", "posted", "claimed", "confirmed", "fought", "settled",
        ])

    def test_what_changes_no_state_of_a_node_leaves_its_journal(self):
        net = network()
        for _ in story(net):
            pass
        before = journals(net)
        for node in net.nodes():
            net.tick(node)
            net.stop(node)
            net.start(node)
        lose_all(net)
        self.assertEqual(journals(net), before)


class RebuiltTest(unittest.TestCase):
    def test_it_tells_what_show_tells_at_each_moment(self):
        net = network()
        told = []
        for _ in story(net):
            told.append((journals(net), shows(net)))
            for node, journal, state in zip(net.nodes(), journals(net), shows(net)):
                self.assertEqual(rebuilt(SETUP, node, journal), state)
        # Journals that were told earlier tell what was shown earlier.
        for journal_list, states in told[::7]:
            for node, journal, state in zip(net.nodes(), journal_list, states):
                self.assertEqual(rebuilt(SETUP, node, journal), state)

    def test_no_entries(self):
        net = network()
        for node in net.nodes():
            self.assertEqual(rebuilt(SETUP, node, []), net.show(node))

    def test_the_journal_and_the_network_stay_as_they_were(self):
        net = network()
        for _ in story(net):
            pass
        before = snapshot(net)
        for node in net.nodes():
            journal = net.journal(node)
            rebuilt(SETUP, node, journal)
            rebuilt(SETUP, node, journal)
            self.assertEqual(journal, net.journal(node))
        self.assertEqual(snapshot(net), before)

    def test_wrong_setups_go_first(self):
        for setup in ((), None, "x", SETUP[:3], (*SETUP[:3], 99)):
            for node in (SWITCH, A0, ("acquirer", 5), None, "switch"):
                with self.assertRaises(BadSetup):
                    rebuilt(setup, node, [])

    def test_wrong_nodes(self):
        for node in (
            "switch", (), ("switch", 0), ("acquirer",), ("acquirer", 2), ("acquirer", -1), ("issuer", 2), (0, 0),
            ("acquirer", "0"), ("issuer", True), ("house", 0), 0, None, True, ("acquirer", 0, 0), (("switch",),),
        ):
            with self.subTest(node=node):
                with self.assertRaises(NoSuch):
                    rebuilt(SETUP, node, [])

    def test_each_node_of_other_setups(self):
        for setup in ((((1,),), (3,), 0, 500), (((1, 2, 3), (4,)), (1, 2), 300, 300)):
            net = network(setup)
            for node in net.nodes():
                self.assertEqual(rebuilt(setup, node, []), net.show(node))


class StopTest(unittest.TestCase):
    def test_up_and_down(self):
        net = network()
        for node in net.nodes():
            self.assertIsNone(net.stop(node))
            self.assertEqual([net.is_up(other) for other in net.nodes()], [other != node for other in net.nodes()])
            self.assertIsNone(net.stop(node))
            self.assertFalse(net.is_up(node))
            self.assertIsNone(net.start(node))
            self.assertTrue(net.is_up(node))
            self.assertIsNone(net.start(node))
            self.assertTrue(net.is_up(node))
        self.assertIs(net.is_up(A0), True)
        net.stop(A0)
        self.assertIs(net.is_up(A0), False)

    def test_each_node_at_each_moment(self):
        net = network()
        for _ in story(net):
            before = snapshot(net)
            for node in net.nodes():
                net.stop(node)
                self.assertEqual(net.show(node), before[1][net.nodes().index(node)][2])
            self.assertEqual(shows(net), [row[2] for row in before[1]])
            self.assertEqual(net.total(), before[3])
            for node in net.nodes():
                net.start(node)
            self.assertEqual(snapshot(net), before)

    def test_a_story_with_stops_is_the_same_as_without(self):
        one, other = network(), network()
        for moment, _ in enumerate(zip(story(one), story(other))):
            node = other.nodes()[moment % 5]
            other.stop(node)
            other.start(node)
            self.assertEqual(snapshot(other), snapshot(one))

    def test_what_is_delivered_to_a_stopped_node_is_lost(self):
        net = network()
        name = net.purchase(0, 0, (0, 0), 5)
        for node in (SWITCH, I0, SWITCH, A0):
            for other in (A0, SWITCH, I0):
                net.tick(other)
            while messages(net)[0][1] != node:
                net.deliver(numbers(net)[0])
            net.stop(node)
            before = snapshot(net)
            number = numbers(net)[0]
            net.deliver(number)
            self.assertEqual(snapshot(net)[:2], before[:2])
            self.assertEqual(net.bag(), [message for message in before[2] if message[0] != number])
            with self.assertRaises(NoSuch):
                net.deliver(number)
            net.start(node)
            self.assertEqual(net.show(node), [row[2] for row in before[1]][net.nodes().index(node)])
        rounds(net)
        self.assertEqual(both(net, name), ("granted", "held"))

    def test_a_stopped_node_does_nothing_at_a_tick(self):
        net = network()
        claimed(net)
        net.purchase(0, 0, (0, 0), 5)
        net.purchase(1, 0, (0, 0), 5)
        name = posted(net, (1, 0), 100, 1)
        net.claim(name)
        net.settle()
        lose_all(net)
        for node in (A0, SWITCH, I1):
            net.stop(node)
            before = snapshot(net)
            self.assertIsNone(net.tick(node))
            self.assertEqual(snapshot(net), before)
            net.start(node)
            self.assertIsNone(net.tick(node))
            self.assertGreater(len(net.bag()), len(before[2]))

    def test_a_round_goes_on_without_stopped_nodes(self):
        net = network()
        names = [net.purchase(0, 0, (0, 0), 5), net.purchase(1, 0, (1, 0), 5)]
        net.stop(A0)
        net.stop(I1)
        rounds(net)
        self.assertEqual([both(net, name) for name in names], [("asked", None)] * 2)
        self.assertEqual([receiver for _, receiver, _ in messages(net)], [I1])
        net.start(A0)
        rounds(net)
        self.assertEqual([both(net, name) for name in names], [("granted", "held"), ("asked", None)])
        net.start(I1)
        rounds(net)
        self.assertEqual(both(net, names[1]), ("granted", "held"))

    def test_deeds_of_stopped_nodes(self):
        net = network()
        asked = net.purchase(0, 0, (0, 0), 1)
        names = {bring: bring(net, (0, 0), 10) for bring in (granted, posted, paid, claimed)}
        net.stop(A0)
        net.stop(I0)
        for deed in (
            lambda: net.purchase(0, 0, (0, 0), 1), lambda: net.undo(asked), lambda: net.undo(names[granted]),
            lambda: net.close(0), lambda: net.fight(names[claimed]), lambda: net.claim(names[posted]),
            lambda: net.claim(names[paid]),
        ):
            before = snapshot(net)
            with self.assertRaises(Stopped):
                deed()
            self.assertEqual(snapshot(net), before)
        self.assertIsInstance(net.settle(), int)

    def test_deeds_beside_stopped_nodes(self):
        net = network()
        name, other = posted(net), claimed(net, (1, 0), 100, 1)
        net.stop(A0)
        net.stop(SWITCH)
        net.stop(I1)
        # The issuer claims though acquirer and switch are down, and what is stopped still shows.
        self.assertIsNone(net.claim(name))
        self.assertEqual(both(net, name), ("filed", "claimed"))
        self.assertIsNone(net.fight(other))
        self.assertEqual(net.purchase(1, 0, (1, 0), 5), (1, 1))
        self.assertIsNone(net.undo((1, 1)))
        self.assertIsNone(net.close(1))
        self.assertEqual((net.spendable((1, 0)), net.spendable((0, 0))), (2000, 5000))
        self.assertEqual(net.total(), 7300)

    def test_accounts_of_stopped_nodes_count(self):
        net = network()
        paid(net, (0, 0), 1000)
        for node in (A0, I0, SWITCH, A1, I1):
            net.stop(node)
        self.assertEqual(net.total(), 7300)
        self.assertEqual(accounts(net, A0), ((975, 0), 15, -990))
        self.assertEqual(net.spendable((0, 0)), 4000)


class SwitchTest(unittest.TestCase):
    def test_an_issuer_that_has_confirmed_is_left_alone_behind_a_start(self):
        net = network()
        granted(net, (0, 0), 100)
        granted(net, (1, 0), 200)
        net.close(0)
        net.tick(A0)
        step(net)
        net.lose(numbers(net)[1])
        run(net)
        self.assertEqual(net.show(SWITCH)[0][0][2], (0,))
        net.stop(SWITCH)
        net.start(SWITCH)
        net.tick(SWITCH)
        self.assertEqual([(receiver, body[:4]) for _, receiver, body in messages(net)], [(I1, ("post", 0, 0, 1))])
        run(net)
        self.assertEqual(net.show(SWITCH)[0][0][2], (0, 1))

    def test_what_was_noted_is_noted_behind_a_start(self):
        net = network()
        paid(net)
        net.stop(SWITCH)
        net.start(SWITCH)
        self.assertEqual(net.settle(), 0)
        net.stop(SWITCH)
        net.start(SWITCH)
        self.assertIsNone(net.settle())
        self.assertEqual(net.show(SWITCH)[3], ((((A0, 990), (I0, -990)), ()),))

    def test_a_settled_cycle_is_not_added_again_behind_a_start(self):
        net = network()
        paid(net)
        net.settle()
        net.tick(SWITCH)
        net.deliver(numbers(net)[0])
        net.stop(A0)
        net.start(A0)
        run(net)
        self.assertEqual(accounts(net, A0)[2], 0)
        self.assertEqual(len(net.journal(A0)), len(set(net.journal(A0))))

    def test_nodes_that_confirmed_a_cycle_are_left_alone_behind_a_start(self):
        net = network()
        paid(net)
        net.settle()
        net.lose(numbers(net)[0])
        run(net)
        net.stop(SWITCH)
        net.start(SWITCH)
        net.tick(SWITCH)
        self.assertEqual([receiver for _, receiver, _ in messages(net)], [A0])

    def test_a_short_fight_is_replayed_as_it_was(self):
        net = network()
        name = claimed(net, (0, 1), 200)
        held = granted(net, (0, 1), 200)
        net.fight(name)
        run(net, A0)
        self.assertEqual(accounts(net, I0), ((5000, 300), -198, 198))
        net.undo(held)
        run(net, A0)
        self.assertEqual(net.spendable((0, 1)), 300)
        before = net.show(I0)
        net.stop(I0)
        self.assertEqual(net.show(I0), before)
        net.start(I0)
        self.assertEqual(net.show(I0), before)
        self.assertEqual(at_issuer(net, name)[3:], ("fought", True))

    def test_confirmed_fights_are_left_alone_behind_a_start(self):
        net = network()
        name = fought(net)
        net.stop(A0)
        net.start(A0)
        net.tick(A0)
        self.assertEqual(net.bag(), [])
        self.assertEqual(stage(net, name), "fought")


if __name__ == "__main__":
    unittest.main()
