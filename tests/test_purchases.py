"""Promises [2.1] to [2.4]: purchases are asked for, answered, and taken back."""

import itertools
import unittest

from acquit.errors import BadStage
from scenes import (
    A0, A1, I0, I1, SWITCH, accounts, at_acquirer, at_issuer, both, claimed, fought, granted, granted_alone, lose_all,
    lose_all_but, messages, network, numbers, paid, posted, run, run_but, snapshot, stage, step,
)


def bring_further(net, bring, kept):
    """Bring the purchase (0, 0) that is asked to a stage, while a message stays in the bag."""
    run_but(net, kept, A0)
    net.close(0)
    run_but(net, kept, A0)
    if bring != posted:
        run_but(net, kept, A0)
    if bring in (claimed, fought):
        net.claim((0, 0))
        run_but(net, kept, I0)
    if bring == fought:
        net.fight((0, 0))
        run_but(net, kept, A0)


class AskTest(unittest.TestCase):
    def test_a_new_purchase_is_asked_and_the_issuer_has_not_heard_of_it(self):
        net = network()
        name = net.purchase(0, 1, (1, 0), 77)
        self.assertEqual(at_acquirer(net, name), (1, (1, 0), 77, "asked", False))
        self.assertIsNone(at_issuer(net, name))
        self.assertEqual(net.spendable((1, 0)), 2000)

    def test_step_by_step(self):
        net = network()
        name = net.purchase(0, 1, (0, 1), 77)
        net.tick(A0)
        self.assertEqual(messages(net), [(A0, SWITCH, ("ask", name, (0, 1), 77))])
        self.assertEqual(step(net), [(SWITCH, I0, ("ask", name, (0, 1), 77))])
        self.assertEqual(both(net, name), ("asked", None))
        self.assertEqual(step(net), [(I0, SWITCH, ("answer", name, True))])
        self.assertEqual(at_issuer(net, name), (name, 1, 77, "held", False))
        self.assertEqual(step(net), [(SWITCH, A0, ("answer", name, True))])
        self.assertEqual(stage(net, name), "asked")
        self.assertEqual(step(net), [])
        self.assertEqual(at_acquirer(net, name), (1, (0, 1), 77, "granted", False))

    def test_an_ask_is_sent_at_each_tick_until_it_is_answered(self):
        net = network()
        name = net.purchase(0, 0, (0, 0), 5)
        ask = (A0, SWITCH, ("ask", name, (0, 0), 5))
        for many in (1, 2, 3):
            net.tick(A0)
            self.assertEqual(messages(net), [ask] * many)
        run(net)
        for node in net.nodes():
            net.tick(node)
        self.assertEqual(net.bag(), [])

    def test_asks_go_by_their_numbers_beyond_a_hundred(self):
        net = network()
        names = [net.purchase(0, 0, (0, 0), 1) for _ in range(130)]
        self.assertEqual(names, [(0, n) for n in range(130)])
        net.tick(A0)
        self.assertEqual([body[1] for _, _, body in messages(net)], names)
        # The issuer hears of them from the last to the first, and tells them by their names.
        while net.bag():
            net.deliver(numbers(net)[-1])
        self.assertEqual([row[0] for row in net.show(I0)[1]], names)
        self.assertEqual({row[3] for row in net.show(A0)[1]}, {"granted"})

    def test_names_of_two_acquirers_rise_at_the_issuer(self):
        net = network()
        for acquirer in (1, 0, 1, 0):
            granted(net, (0, 0), 10, acquirer)
        self.assertEqual([row[0] for row in net.show(I0)[1]], [(0, 0), (0, 1), (1, 0), (1, 1)])

    def test_what_is_held_is_off_what_can_be_spent_but_not_off_the_balance(self):
        net = network()
        granted(net, (0, 0), 1200)
        granted(net, (0, 0), 300, 1)
        self.assertEqual(net.spendable((0, 0)), 3500)
        self.assertEqual(net.spendable((0, 1)), 300)
        self.assertEqual(accounts(net, I0), ((5000, 300), 0, 0))
        self.assertEqual(accounts(net, A0), ((0, 0), 0, 0))
        self.assertEqual(net.total(), 7300)


class GrantTest(unittest.TestCase):
    def asked(self, net, card, amount, acquirer=0):
        name = net.purchase(acquirer, 0, card, amount)
        run(net, ("acquirer", acquirer))
        return both(net, name)

    def test_an_amount_that_the_holder_has_just_and_one_more(self):
        net = network()
        self.assertEqual(self.asked(net, (0, 1), 301), ("refused", "refused"))
        self.assertEqual(self.asked(net, (0, 1), 300), ("granted", "held"))
        self.assertEqual(self.asked(net, (0, 1), 1), ("refused", "refused"))
        self.assertEqual(net.spendable((0, 1)), 0)
        self.assertEqual(net.spendable((0, 0)), 5000)

    def test_held_amounts_of_all_acquirers_count(self):
        net = network()
        self.assertEqual(self.asked(net, (0, 1), 200, 1), ("granted", "held"))
        self.assertEqual(self.asked(net, (0, 1), 101, 0), ("refused", "refused"))
        self.assertEqual(self.asked(net, (0, 1), 100, 0), ("granted", "held"))

    def test_the_least_and_the_greatest_amount(self):
        for share, fee in ((0, 0), (300, 500), (300, 300)):
            net = network((((10**9, 0, 1),), (1,), share, fee))
            self.assertEqual(self.asked(net, (0, 0), 10**9), ("granted", "held"))
            self.assertEqual(self.asked(net, (0, 0), 1), ("refused", "refused"))
            self.assertEqual(self.asked(net, (0, 1), 1), ("refused", "refused"))
            self.assertEqual(self.asked(net, (0, 2), 2), ("refused", "refused"))
            self.assertEqual(self.asked(net, (0, 2), 1), ("granted", "held"))

    def test_a_refused_purchase_is_kept_and_holds_nothing(self):
        net = network()
        name = net.purchase(0, 0, (0, 1), 301)
        net.tick(A0)
        step(net)
        self.assertEqual(step(net), [(I0, SWITCH, ("answer", name, False))])
        self.assertEqual(at_issuer(net, name), (name, 1, 301, "refused", False))
        run(net)
        self.assertEqual(at_acquirer(net, name), (0, (0, 1), 301, "refused", False))
        self.assertEqual(net.spendable((0, 1)), 300)

    def test_what_was_refused_stays_refused(self):
        net = network()
        held = granted(net, (0, 1), 200)
        name = net.purchase(0, 0, (0, 1), 200)
        net.tick(A0)
        copy = net.double(numbers(net)[0])
        while len(net.bag()) > 1 or net.bag()[0][0] != copy:
            net.deliver([number for number in numbers(net) if number != copy][0])
        net.undo(held)
        net.tick(A0)
        while len(net.bag()) > 1:
            net.deliver([number for number in numbers(net) if number != copy][0])
        self.assertEqual(net.spendable((0, 1)), 300)
        net.deliver(copy)
        step(net)
        self.assertEqual(messages(net), [(I0, SWITCH, ("answer", name, False))])
        run(net)
        self.assertEqual(both(net, name), ("refused", "refused"))

    def test_an_ask_that_comes_again_is_held_once_and_answered_again(self):
        net = network()
        name = net.purchase(0, 0, (0, 1), 300)
        for _ in range(3):
            net.tick(A0)
        step(net)
        self.assertEqual(step(net), [(I0, SWITCH, ("answer", name, True))] * 3)
        self.assertEqual(net.spendable((0, 1)), 0)
        run(net)
        self.assertEqual(both(net, name), ("granted", "held"))

    def test_asks_that_come_late_are_answered_by_the_stage(self):
        for bring in (posted, paid, claimed, fought):
            net = network()
            name = net.purchase(0, 0, (0, 0), 1000)
            net.tick(A0)
            copy = net.double(0)
            lose_all_but(net, copy)
            bring_further(net, bring, copy)
            self.assertNotEqual(both(net, name), ("granted", "held"))
            before = [net.show(node) for node in net.nodes()]
            net.deliver(copy)
            step(net)
            self.assertEqual(messages(net), [(I0, SWITCH, ("answer", name, True))])
            run(net)
            self.assertEqual([net.show(node) for node in net.nodes()], before)

    def test_an_answer_that_comes_late_changes_nothing(self):
        for good, amount in ((True, 100), (False, 400)):
            net = network()
            name = net.purchase(0, 0, (0, 1), amount)
            net.tick(A0)
            step(net)
            step(net)
            step(net)
            (number, _, _, body), = net.bag()
            self.assertEqual(body, ("answer", name, good))
            copies = [net.double(number) for _ in range(3)]
            net.deliver(number)
            after = [net.show(node) for node in net.nodes()]
            net.deliver(copies[0])
            self.assertEqual([net.show(node) for node in net.nodes()], after)
            if good:
                net.undo(name)
                net.deliver(copies[1])
                self.assertEqual(stage(net, name), "undoing")
                run(net, A0)
                self.assertEqual(both(net, name), ("undone", "undone"))


class UndoTest(unittest.TestCase):
    def test_step_by_step(self):
        net = network()
        name = granted(net, (0, 1), 120, 0, 1)
        self.assertIsNone(net.undo(name))
        self.assertEqual(both(net, name), ("undoing", "held"))
        net.tick(A0)
        self.assertEqual(messages(net), [(A0, SWITCH, ("undo", name, (0, 1)))])
        self.assertEqual(step(net), [(SWITCH, I0, ("undo", name, (0, 1)))])
        self.assertEqual(net.spendable((0, 1)), 180)
        self.assertEqual(step(net), [(I0, SWITCH, ("undone", name))])
        self.assertEqual(at_issuer(net, name), (name, 1, 120, "undone", False))
        self.assertEqual(net.spendable((0, 1)), 300)
        self.assertEqual(step(net), [(SWITCH, A0, ("undone", name))])
        self.assertEqual(stage(net, name), "undoing")
        self.assertEqual(step(net), [])
        self.assertEqual(at_acquirer(net, name), (1, (0, 1), 120, "undone", False))
        self.assertEqual(accounts(net, I0), ((5000, 300), 0, 0))

    def test_an_undo_is_sent_at_each_tick_until_it_is_confirmed(self):
        net = network()
        name = granted(net)
        net.undo(name)
        for many in (1, 2, 3):
            net.tick(A0)
            self.assertEqual(messages(net), [(A0, SWITCH, ("undo", name, (0, 0)))] * many)
        run(net)
        self.assertEqual(both(net, name), ("undone", "undone"))
        for node in net.nodes():
            net.tick(node)
        self.assertEqual(net.bag(), [])

    def test_an_undo_ahead_of_its_ask(self):
        net = network()
        name = net.purchase(0, 0, (1, 0), 50)
        net.tick(A0)
        net.undo(name)
        net.tick(A0)
        ask, undo = numbers(net)
        net.deliver(undo)
        net.deliver(numbers(net)[-1])
        self.assertEqual(at_issuer(net, name), (name, None, None, "undone", False))
        net.deliver(ask)
        net.deliver(numbers(net)[-1])
        self.assertEqual(messages(net)[-1], (I1, SWITCH, ("answer", name, False)))
        self.assertEqual(at_issuer(net, name), (name, None, None, "undone", False))
        self.assertEqual(net.spendable((1, 0)), 2000)
        run(net)
        self.assertEqual(both(net, name), ("undone", "undone"))

    def test_an_answer_behind_an_undo(self):
        net = network()
        name = net.purchase(0, 0, (1, 0), 50)
        net.tick(A0)
        step(net)
        step(net)
        step(net)
        (answer, _, _, body), = net.bag()
        self.assertEqual(body, ("answer", name, True))
        net.undo(name)
        net.deliver(answer)
        self.assertEqual(both(net, name), ("undoing", "held"))
        run(net, A0)
        self.assertEqual(both(net, name), ("undone", "undone"))

    def test_an_undo_of_what_the_issuer_refused(self):
        net = network()
        name = net.purchase(0, 0, (0, 1), 301)
        net.tick(A0)
        step(net)
        step(net)
        lose_all(net)
        self.assertEqual(both(net, name), ("asked", "refused"))
        net.undo(name)
        net.tick(A0)
        step(net)
        self.assertEqual(step(net), [(I0, SWITCH, ("undone", name))])
        self.assertEqual(at_issuer(net, name), (name, 1, 301, "refused", False))
        run(net)
        self.assertEqual(both(net, name), ("undone", "refused"))
        self.assertEqual(net.spendable((0, 1)), 300)

    def test_an_undo_that_comes_again_gives_free_once(self):
        net = network()
        other, name = granted(net, (0, 1), 100), granted(net, (0, 1), 150)
        net.undo(name)
        net.tick(A0)
        net.tick(A0)
        net.double(numbers(net)[0])
        step(net)
        self.assertEqual(step(net), [(I0, SWITCH, ("undone", name))] * 3)
        self.assertEqual(net.spendable((0, 1)), 200)
        run(net)
        self.assertEqual(both(net, other), ("granted", "held"))
        self.assertEqual(both(net, name), ("undone", "undone"))

    def test_what_was_undone_is_free_again(self):
        net = network()
        net.undo(granted(net, (0, 1), 300))
        run(net, A0)
        granted(net, (0, 1), 300)

    def test_only_asked_and_granted_purchases_can_be_taken_back(self):
        net = network()
        names = [bring(net, (0, 0), 100) for bring in (posted, paid, claimed, fought)]
        refused, undoing, undone = net.purchase(0, 0, (0, 1), 999), granted(net), granted(net)
        run(net, A0)
        net.undo(undone)
        run(net, A0)
        net.undo(undoing)
        stages = [stage(net, name) for name in (*names[-2:], refused, undoing, undone)]
        self.assertEqual(stages, ["claimed", "fought", "refused", "undoing", "undone"])
        for name in (*names, refused, undoing, undone):
            before = snapshot(net)
            with self.assertRaises(BadStage):
                net.undo(name)
            self.assertEqual(snapshot(net), before)

    def test_a_purchase_that_is_undoing_is_not_filed(self):
        net = network()
        name = granted(net)
        net.undo(name)
        self.assertIsNone(net.close(0))
        run(net, A0)
        self.assertIsNone(net.close(0))
        self.assertEqual(both(net, name), ("undone", "undone"))


class TickTest(unittest.TestCase):
    def test_the_whole_order(self):
        net = network()
        fights = [claimed(net, (0, 0), 10), claimed(net, (1, 0), 10)]
        undos = [granted(net, (1, 0), 10), granted(net, (0, 0), 10)]
        filed = [granted(net, (0, 0), 20), granted(net, (0, 1), 21)]
        net.undo(undos[1])
        net.undo(undos[0])
        self.assertEqual(net.close(0), 2)
        last = granted_alone(net, (0, 0), 5)
        self.assertEqual(net.close(0), 3)
        asks = [net.purchase(0, 0, (0, 0), 30), net.purchase(0, 1, (1, 0), 31)]
        net.fight(fights[1])
        net.fight(fights[0])
        net.tick(A0)
        self.assertEqual([body for _, _, body in messages(net)], [
            ("ask", asks[0], (0, 0), 30),
            ("ask", asks[1], (1, 0), 31),
            ("undo", undos[0], (1, 0)),
            ("undo", undos[1], (0, 0)),
            ("file", 0, 2, ((filed[0], (0, 0), 20), (filed[1], (0, 1), 21))),
            ("file", 0, 3, ((last, (0, 0), 5),)),
            ("fight", fights[0], 0),
            ("fight", fights[1], 1),
        ])
        self.assertEqual({(sender, receiver) for sender, receiver, _ in messages(net)}, {(A0, SWITCH)})

    def test_an_acquirer_speaks_of_its_own_purchases(self):
        net = network()
        net.purchase(0, 0, (0, 0), 1)
        name = net.purchase(1, 0, (1, 0), 2)
        net.tick(A1)
        self.assertEqual(messages(net), [(A1, SWITCH, ("ask", name, (1, 0), 2))])

    def test_a_tick_of_switch_and_issuers_sends_no_asks(self):
        net = network()
        net.purchase(0, 0, (0, 0), 1)
        for node in (SWITCH, I0, I1, A1):
            net.tick(node)
        self.assertEqual(net.bag(), [])


class OrdersTest(unittest.TestCase):
    """An ask, its undo and the answers to both, in any order."""

    def test_any_order_ends_undone(self):
        for picks in itertools.product(range(3), repeat=7):
            net = network((((100,),), (1,), 0, 0))
            name = net.purchase(0, 0, (0, 0), 100)
            net.tick(A0)
            net.tick(A0)
            net.undo(name)
            net.tick(A0)
            for pick in picks:
                if net.bag():
                    net.deliver(numbers(net)[pick % len(net.bag())])
            run(net)
            self.assertEqual(both(net, name), ("undone", "undone"))
            self.assertEqual(net.spendable((0, 0)), 100)


if __name__ == "__main__":
    unittest.main()
