"""Promises [7.1] to [7.3], and [6.1] again: networks of random deeds from written seeds."""

import random
import unittest

from acquit.errors import AcquitError
from acquit.money import parts
from acquit.network import Network
from acquit.node import rebuilt
from scenes import A0, I0, I1, SWITCH, granted, network, numbers, rounds

SETUPS = (
    (((1000, 60), (500, 0, 90)), (2, 1), 100, 250),
    (((300,),), (1,), 300, 500),
    (((200, 200), (400,)), (1, 3), 0, 0),
    (((10**9, 5),), (1, 1), 300, 300),
    (((70, 80, 90), (100,)), (3,), 33, 500),
)
POSTED = ("posted", "claimed", "fought")
PAID = ("paid", "claimed", "fought")


class Player:
    """Does random deeds; what may be refused is refused at times."""

    def __init__(self, net, setup, seed):
        self.net = net
        self.setup = setup
        self.chance = random.Random(seed)

    def deed(self):
        kind = self.chance.choices(
            ("purchase", "undo", "close", "claim", "fight", "settle", "tick", "deliver", "lose", "double", "stop",
             "start", "round"),
            (9, 3, 4, 5, 5, 2, 30, 60, 4, 6, 2, 5, 1),
        )[0]
        try:
            getattr(self, kind)()
        except AcquitError:
            pass

    def name(self):
        i = self.chance.randrange(len(self.setup[1]))
        return (i, self.chance.randrange(1 + len(self.net.show(("acquirer", i))[1])))

    def node(self):
        return self.chance.choice(self.net.nodes())

    def number(self):
        return self.chance.choice(numbers(self.net) or [0])

    def purchase(self):
        j = self.chance.randrange(len(self.setup[0]))
        h = self.chance.randrange(len(self.setup[0][j]))
        i = self.chance.randrange(len(self.setup[1]))
        most = max(1, self.net.spendable((j, h)))
        amount = self.chance.choice((1, self.chance.randint(1, most), most, most + 1, 40))
        self.net.purchase(i, self.chance.randrange(self.setup[1][i]), (j, h), amount)

    def undo(self):
        self.net.undo(self.name())

    def claim(self):
        self.net.claim(self.name())

    def fight(self):
        self.net.fight(self.name())

    def close(self):
        self.net.close(self.chance.randrange(len(self.setup[1])))

    def settle(self):
        self.net.settle()

    def tick(self):
        self.net.tick(self.node())

    def stop(self):
        self.net.stop(self.node())

    def start(self):
        self.net.start(self.node())

    def deliver(self):
        self.net.deliver(self.number())

    def lose(self):
        self.net.lose(self.number())

    def double(self):
        self.net.double(self.number())

    def round(self):
        self.net.round()


class Watch:
    """What must hold at each moment, told from show alone."""

    def __init__(self, case, net, setup):
        self.case = case
        self.net = net
        self.setup = setup
        self.first = {node: self.sum_of(net.show(node)) for node in net.nodes() if node != SWITCH}

    def sum_of(self, state):
        own, income, clearing = state[0]
        return sum(own) + income + clearing

    def look(self):
        states = {node: self.net.show(node) for node in self.net.nodes()}
        cycles = states[SWITCH][3]
        for sums, confirmed in cycles:
            self.case.assertEqual(sum(net for _, net in sums), 0)
            self.case.assertEqual([net for _, net in sums if net == 0], [])
            self.case.assertEqual([node for node in self.net.nodes() if node in dict(sums)], [node for node, _ in sums])
            self.case.assertEqual([node for node, _ in sums if node in confirmed], list(confirmed))
        added = 0
        for node, first in self.first.items():
            nets = [dict(cycles[c][0])[node] for c in states[node][-1]]
            self.case.assertEqual(self.sum_of(states[node]), first + sum(nets))
            added += sum(nets)
        self.case.assertEqual(self.net.total(), sum(self.first.values()) + added)
        self.purchases(states)
        self.accounts(states)
        self.switch(states)

    def purchases(self, states):
        heard = {row[0]: row for j in range(len(self.setup[0])) for row in states[("issuer", j)][1]}
        for i in range(len(self.setup[1])):
            for n, (_, _, amount, stage, _) in enumerate(states[("acquirer", i)][1]):
                there = heard.pop((i, n))[3] if (i, n) in heard else None
                if stage in PAID:
                    self.case.assertIn(there, POSTED)
                if stage in ("refused", "undone"):
                    self.case.assertIn(there, ("refused", "undone"))
                if stage in ("granted", "filed"):
                    self.case.assertIn(there, ("held", *POSTED))
        self.case.assertEqual(heard, {})

    def accounts(self, states):
        """All accounts but those that a short fight touches follow from the stages."""
        for node, state in states.items():
            if node == SWITCH:
                continue
            nets = sum(dict(states[SWITCH][3][c][0])[node] for c in state[-1])
            if node[0] == "acquirer":
                self.acquirer(state, nets)
            else:
                self.issuer(node, state, nets)

    def acquirer(self, state, nets):
        rows = [row for row in state[1] if row[3] in ("paid", "fought")]
        split = [parts(amount, *self.setup[2:]) for _, _, amount, _, _ in rows]
        own = [0] * len(state[0][0])
        for row, (_, fee) in zip(rows, split):
            own[row[0]] += row[2] - fee
        clearing = nets - sum(row[2] - part for row, (part, _) in zip(rows, split))
        self.case.assertEqual(state[0], (tuple(own), sum(fee - part for part, fee in split), clearing))

    def issuer(self, node, state, nets):
        balances, income, clearing = state[0]
        taken, held = [0] * len(balances), [0] * len(balances)
        part_sum = 0
        for _, holder, amount, stage, _ in state[1]:
            if stage == "held":
                held[holder] += amount
            if stage in ("posted", "fought"):
                taken[holder] += amount
                part_sum += parts(amount, *self.setup[2:])[0]
        self.case.assertEqual(clearing, nets + sum(taken) - part_sum)
        self.case.assertLessEqual(income, part_sum)
        for h, balance in enumerate(balances):
            self.case.assertGreaterEqual(balance, held[h])
            self.case.assertGreaterEqual(held[h], 0)
            self.case.assertGreaterEqual(balance, self.setup[0][node[1]][h] - taken[h])
            self.case.assertEqual(self.net.spendable((node[1], h)), balance - held[h])

    def switch(self, states):
        files, claims, fights, _ = states[SWITCH]
        keys = [key for key, _, _ in files]
        self.case.assertEqual(keys, sorted(set(keys)))
        self.case.assertEqual((claims, fights), (tuple(sorted(set(claims))), tuple(sorted(set(fights)))))
        self.case.assertLessEqual(set(fights), set(claims))
        for (i, b), rows, confirmed in files:
            self.case.assertEqual(tuple(name[1] for name, _, _ in rows), states[("acquirer", i)][2][b][0])
            self.case.assertLessEqual(set(confirmed), {card[0] for _, card, _ in rows})


def quiet(case, net, setup):
    """What must hold behind 8 rounds in which nothing is lost."""
    for i in range(len(setup[1])):
        state = net.show(("acquirer", i))
        case.assertEqual([row for row in state[1] if row[3] in ("asked", "undoing", "filed")], [])
        case.assertEqual([row for row in state[1] if row[3] == "fought" and not row[4]], [])
        case.assertEqual([file for file in state[2] if not file[1]], [])
    for j in range(len(setup[0])):
        rows = net.show(("issuer", j))[1]
        case.assertEqual([row for row in rows if row[3] == "claimed" and not row[4]], [])
    for sums, confirmed in net.show(SWITCH)[3]:
        case.assertEqual(confirmed, tuple(node for node, _ in sums))


class RandomTest(unittest.TestCase):
    def play(self, setup, seed, deeds):
        net = Network(setup)
        watch, player = Watch(self, net, setup), Player(net, setup, seed)
        told = {node: [] for node in net.nodes()}
        journals = {node: [] for node in net.nodes()}
        for _ in range(deeds):
            player.deed()
            watch.look()
            for node in net.nodes():
                before, journals[node] = journals[node], net.journal(node)
                self.assertEqual(journals[node][:len(before)], before)
                told[node].append((len(journals[node]), net.show(node)))
        self.replay(net, setup, told)
        self.finish(net, setup, watch)
        return net

    def replay(self, net, setup, told):
        for node, moments in told.items():
            journal = net.journal(node)
            for many, state in moments[::5] + moments[-1:]:
                self.assertEqual(rebuilt(setup, node, journal[:many]), state)

    def finish(self, net, setup, watch):
        for node in net.nodes():
            net.start(node)
        rounds(net, 8)
        watch.look()
        quiet(self, net, setup)
        net.settle()
        rounds(net, 8)
        watch.look()
        quiet(self, net, setup)
        for node in net.nodes()[1:]:
            self.assertEqual(net.show(node)[0][2], 0)
        self.assertEqual(net.total(), sum(map(sum, setup[0])))
        self.assertIsNone(net.settle())

    def test_networks_of_random_deeds(self):
        stages = set()
        for at, setup in enumerate(SETUPS):
            for seed in range(6):
                with self.subTest(setup=setup, seed=seed):
                    net = self.play(setup, 100 * at + seed, 400)
                    for i in range(len(setup[1])):
                        stages.update(row[3] for row in net.show(("acquirer", i))[1])
        self.assertLessEqual({"granted", "refused", "undone", "paid", "claimed", "fought"}, stages)

    def test_many_short_networks(self):
        for seed in range(60):
            with self.subTest(seed=seed):
                self.play(SETUPS[seed % len(SETUPS)], "short" + str(seed), 60)

    def test_a_long_network(self):
        self.play(SETUPS[0], "long", 2000)


class RoundTest(unittest.TestCase):
    def test_ticks_by_the_nodes_then_deliveries_by_the_numbers(self):
        net = network()
        for node in (A0, ("acquirer", 1)):
            net.purchase(node[1], 0, (0, 0), 5)
        self.assertIsNone(net.round())
        self.assertEqual(net.bag(), [
            (2, SWITCH, I0, ("ask", (0, 0), (0, 0), 5)), (3, SWITCH, I0, ("ask", (1, 0), (0, 0), 5)),
        ])

    def test_a_round_is_what_it_says(self):
        one, other = network(), network()
        player, shadow = Player(one, SETUPS[0], 7), Player(other, SETUPS[0], 7)
        player.setup = shadow.setup = (((5000, 300), (2000,)), (2, 1), 100, 250)
        for _ in range(150):
            player.deed()
            shadow.deed()
            one.round()
            for node in other.nodes():
                other.tick(node)
            for number in numbers(other):
                other.deliver(number)
            self.assertEqual(one.bag(), other.bag())
            self.assertEqual([one.show(node) for node in one.nodes()], [other.show(node) for node in other.nodes()])

    def test_what_lay_in_the_bag_is_delivered_first(self):
        net = network()
        name = net.purchase(0, 0, (1, 0), 5)
        net.tick(A0)
        net.round()
        self.assertEqual([message[0] for message in net.bag()], [2, 3])
        net.round()
        self.assertEqual([message[1:3] for message in net.bag()], [(I1, SWITCH)] * 2 + [(SWITCH, I1)])
        rounds(net, 2)
        self.assertEqual(net.show(A0)[1][name[1]][3], "granted")

    def test_a_round_of_a_quiet_network_does_nothing(self):
        net = network()
        granted(net)
        rounds(net)
        before = [net.journal(node) for node in net.nodes()]
        net.round()
        self.assertEqual(net.bag(), [])
        self.assertEqual([net.journal(node) for node in net.nodes()], before)


class EightRoundsTest(unittest.TestCase):
    def test_eight_rounds_are_enough_from_the_farthest_moment(self):
        # The file waits, the claim waits for the file, and nothing has been heard by the switch yet.
        net = network()
        name = granted(net)
        net.close(0)
        net.tick(A0)
        for word in ("file", "post"):
            (number, _, _, body), = net.bag()
            self.assertEqual(body[0], word)
            net.deliver(number)
        net.lose(numbers(net)[0])
        net.claim(name)
        net.purchase(0, 0, (1, 0), 7)
        net.undo(net.purchase(0, 0, (1, 0), 8))
        rounds(net, 8)
        quiet(self, net, (((5000, 300), (2000,)), (2, 1), 100, 250))
        self.assertIsNone(net.settle())
        net.fight(name)
        rounds(net, 8)
        self.assertEqual(net.settle(), 0)
        rounds(net, 8)
        self.assertEqual([net.show(node)[0][2] for node in net.nodes()[1:]], [0, 0, 0, 0])


if __name__ == "__main__":
    unittest.main()
