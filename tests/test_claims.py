"""Promises [4.1] and [4.2]: claims and fights, sent until they are confirmed."""

import unittest

from acquit.errors import BadStage
from acquit.node import state_of
from scenes import (
    A0, A1, I0, I1, SETUP, SWITCH, accounts, at_acquirer, at_issuer, both, claimed, fought, granted, lose_all, messages,
    network, numbers, paid, posted, run, run_but, rounds, shows, snapshot, stage, step,
)


class ClaimTest(unittest.TestCase):
    def test_step_by_step(self):
        net = network()
        name = paid(net, (0, 1), 200, 0, 1)
        self.assertEqual(accounts(net, I0), ((5000, 100), 2, 198))
        self.assertEqual(accounts(net, A0), ((0, 195), 3, -198))
        self.assertIsNone(net.claim(name))
        self.assertEqual(at_issuer(net, name), (name, 1, 200, "claimed", False))
        self.assertEqual(accounts(net, I0), ((5000, 300), 0, 0))
        self.assertEqual(net.spendable((0, 1)), 300)
        net.tick(I0)
        self.assertEqual(messages(net), [(I0, SWITCH, ("claim", name))])
        self.assertEqual(step(net), [(SWITCH, A0, ("claim", name))])
        self.assertEqual(stage(net, name), "paid")
        self.assertEqual(step(net), [(A0, SWITCH, ("claimed", name, 0))])
        self.assertEqual(at_acquirer(net, name), (1, (0, 1), 200, "claimed", False))
        self.assertEqual(accounts(net, A0), ((0, 0), 0, 0))
        self.assertEqual(net.show(SWITCH)[1:3], ((), ()))
        self.assertEqual(step(net), [(SWITCH, I0, ("claimed", name, 0))])
        self.assertEqual(net.show(SWITCH)[1:3], ((name,), ()))
        self.assertEqual(at_issuer(net, name)[4], False)
        self.assertEqual(step(net), [])
        self.assertEqual(at_issuer(net, name), (name, 1, 200, "claimed", True))
        self.assertEqual(net.total(), 7300)

    def test_a_claim_is_sent_at_each_tick_until_it_is_confirmed(self):
        net = network()
        name = paid(net)
        net.claim(name)
        for many in (1, 2, 3):
            net.tick(I0)
            self.assertEqual(messages(net), [(I0, SWITCH, ("claim", name))] * many)
        net.tick(I1)
        self.assertEqual(len(net.bag()), 3)
        run(net)
        for node in net.nodes():
            net.tick(node)
        self.assertEqual(net.bag(), [])

    def test_claims_go_by_the_names(self):
        net = network()
        names = [paid(net, (0, 0), 1, n % 2) for n in range(24)]
        for name in reversed(names):
            net.claim(name)
        net.tick(I0)
        self.assertEqual([body for _, _, body in messages(net)], [("claim", name) for name in sorted(names)])
        while net.bag():
            net.deliver(numbers(net)[-1])
        self.assertEqual(net.show(SWITCH)[1], tuple(sorted(names)))

    def test_a_claim_that_comes_again_moves_money_once_and_is_answered_again(self):
        net = network()
        name = paid(net)
        net.claim(name)
        for _ in range(3):
            net.tick(I0)
        step(net)
        self.assertEqual(step(net), [(A0, SWITCH, ("claimed", name, 0))] * 3)
        self.assertEqual(accounts(net, A0), ((0, 0), 0, 0))
        self.assertEqual(step(net), [(SWITCH, I0, ("claimed", name, 0))] * 3)
        run(net)
        self.assertEqual(accounts(net, I0), ((5000, 300), 0, 0))
        self.assertEqual(net.show(SWITCH)[1], (name,))
        self.assertEqual(net.settle(), None)

    def test_a_purchase_that_is_not_paid_yet_is_not_claimed_there(self):
        net = network()
        name = posted(net)
        net.claim(name)
        run(net, I0)
        self.assertEqual(both(net, name), ("filed", "claimed"))
        net.tick(I0)
        step(net)
        self.assertEqual(step(net), [])
        self.assertEqual(accounts(net, A0), ((0, 0), 0, 0))
        run(net, A0)
        self.assertEqual(both(net, name), ("paid", "claimed"))
        run(net, I0)
        self.assertEqual(both(net, name), ("claimed", "claimed"))
        self.assertEqual(at_issuer(net, name)[4], True)

    def test_only_posted_purchases_can_be_claimed(self):
        net = network()
        asked, undone_first = net.purchase(0, 0, (0, 0), 1), net.purchase(0, 0, (0, 0), 1)
        with self.assertRaises(BadStage):
            net.claim(asked)
        net.undo(undone_first)
        run(net, A0)
        held, undone = granted(net, (0, 0), 1), granted(net, (0, 0), 1)
        net.undo(undone)
        run(net, A0)
        refused = net.purchase(0, 0, (0, 1), 999)
        run(net, A0)
        rest = [claimed(net, (0, 0), 10, 1), fought(net, (0, 0), 10, 1)]
        filed = granted(net, (0, 0), 1, 1)
        net.close(1)
        for name in (asked, undone_first, held, undone, refused, *rest, filed):
            before = snapshot(net)
            with self.assertRaises(BadStage):
                net.claim(name)
            self.assertEqual(snapshot(net), before)

    def test_posted_purchases_can_be_claimed_once(self):
        for bring in (posted, paid):
            net = network()
            name = bring(net)
            net.claim(name)
            before = snapshot(net)
            with self.assertRaises(BadStage):
                net.claim(name)
            self.assertEqual(snapshot(net), before)

    def test_each_issuer_claims_its_own(self):
        net = network()
        one, other = paid(net, (0, 0), 100), paid(net, (1, 0), 200, 1)
        net.claim(one)
        net.claim(other)
        net.tick(I1)
        self.assertEqual(messages(net), [(I1, SWITCH, ("claim", other))])
        run(net)
        self.assertEqual((both(net, one), both(net, other)), (("paid", "claimed"), ("claimed", "claimed")))
        self.assertEqual(accounts(net, I1), ((2000,), 0, 0))
        self.assertEqual(accounts(net, A1), ((0,), 0, 0))

    def test_a_merchant_may_fall_below_0(self):
        net = network((((1000,),), (2,), 100, 100))
        one = paid(net, (0, 0), 1000, 0, 0)
        net.claim(one)
        run(net, I0)
        net.fight(one)
        run(net, A0)
        self.assertEqual(accounts(net, A0), ((990, 0), 0, -990))
        net = network((((1000,),), (2,), 100, 100))
        name = paid(net, (0, 0), 1000, 0, 0)
        self.assertEqual(net.settle(), 0)
        run(net)
        net.claim(name)
        rounds(net)
        self.assertEqual(accounts(net, A0), ((0, 0), 0, 990))
        self.assertEqual(accounts(net, I0), ((1000,), 0, -990))


class FightTest(unittest.TestCase):
    def test_step_by_step(self):
        net = network()
        name = claimed(net, (1, 0), 1000, 0, 1)
        self.assertIsNone(net.fight(name))
        self.assertEqual(at_acquirer(net, name), (1, (1, 0), 1000, "fought", False))
        self.assertEqual(accounts(net, A0), ((0, 975), 15, -990))
        net.tick(A0)
        self.assertEqual(messages(net), [(A0, SWITCH, ("fight", name, 1))])
        self.assertEqual(step(net), [(SWITCH, I1, ("fight", name, 1))])
        self.assertEqual(accounts(net, I1), ((2000,), 0, 0))
        self.assertEqual(step(net), [(I1, SWITCH, ("fought", name))])
        self.assertEqual(at_issuer(net, name), (name, 0, 1000, "fought", True))
        self.assertEqual(accounts(net, I1), ((1000,), 10, 990))
        self.assertEqual(net.show(SWITCH)[1:3], ((name,), ()))
        self.assertEqual(step(net), [(SWITCH, A0, ("fought", name))])
        self.assertEqual(net.show(SWITCH)[1:3], ((name,), (name,)))
        self.assertEqual(at_acquirer(net, name)[4], False)
        self.assertEqual(step(net), [])
        self.assertEqual(at_acquirer(net, name), (1, (1, 0), 1000, "fought", True))
        self.assertEqual(net.total(), 7300)

    def test_a_fight_is_sent_at_each_tick_until_it_is_confirmed(self):
        net = network()
        name = claimed(net)
        net.fight(name)
        for many in (1, 2, 3):
            net.tick(A0)
            self.assertEqual(messages(net), [(A0, SWITCH, ("fight", name, 0))] * many)
        run(net)
        for node in net.nodes():
            net.tick(node)
        self.assertEqual(net.bag(), [])

    def test_fights_go_by_their_numbers_and_stand_by_the_names(self):
        net = network()
        names = [claimed(net, (0, 0), 1, 0) for n in range(12)] + [claimed(net, (0, 0), 1, 1)]
        for name in reversed(names):
            net.fight(name)
        net.tick(A1)
        net.tick(A0)
        told = [body for _, _, body in messages(net)]
        self.assertEqual(told, [("fight", name, 0) for name in (names[-1], *names[:-1])])
        while net.bag():
            net.deliver(numbers(net)[-1])
        self.assertEqual(net.show(SWITCH)[2], tuple(names))

    def test_a_fight_that_comes_again_moves_money_once_and_is_answered_again(self):
        net = network()
        name = claimed(net)
        net.fight(name)
        for _ in range(3):
            net.tick(A0)
        step(net)
        self.assertEqual(step(net), [(I0, SWITCH, ("fought", name))] * 3)
        self.assertEqual(accounts(net, I0), ((4000, 300), 10, 990))
        self.assertEqual(step(net), [(SWITCH, A0, ("fought", name))] * 3)
        before = net.settle()
        self.assertIsNotNone(before)
        run(net)
        self.assertEqual(accounts(net, A0), ((975, 0), 15, 0))
        self.assertEqual(accounts(net, I0), ((4000, 300), 10, 0))
        self.assertIsNone(net.settle())

    def test_only_claimed_purchases_can_be_fought(self):
        net = network()
        asked = net.purchase(0, 0, (0, 0), 1)
        names = [bring(net, (0, 0), 10, 1) for bring in (fought, posted)]
        refused = net.purchase(0, 0, (0, 1), 999)
        run(net, A0)
        undone, undoing, held = (granted(net, (0, 0), 1) for _ in range(3))
        net.undo(undone)
        run(net, A0)
        net.undo(undoing)
        last = net.purchase(0, 0, (0, 0), 1)
        stages = [stage(net, name) for name in (asked, *names, refused, undone, undoing, held, last)]
        told = ["granted", "fought", "filed", "refused", "undone", "undoing", "granted", "asked"]
        self.assertEqual(stages, told)
        pay = paid(net, (1, 0), 10, 1)
        net.claim(pay)
        self.assertEqual(both(net, pay), ("paid", "claimed"))
        for name in (asked, *names, refused, undone, undoing, held, last, pay):
            before = snapshot(net)
            with self.assertRaises(BadStage):
                net.fight(name)
            self.assertEqual(snapshot(net), before)

    def test_a_late_claim_does_not_claim_a_fought_purchase_again(self):
        net = network()
        name = paid(net)
        net.claim(name)
        net.tick(I0)
        copy = net.double(numbers(net)[0])
        run_but(net, copy)
        net.fight(name)
        run_but(net, copy, A0)
        before = shows(net)
        net.deliver(copy)
        self.assertEqual(messages(net), [(SWITCH, A0, ("claim", name))])
        self.assertEqual(step(net), [(A0, SWITCH, ("claimed", name, 0))])
        run(net)
        self.assertEqual(shows(net), before)
        self.assertEqual(both(net, name), ("fought", "fought"))

    def test_a_late_claimed_leaves_a_fought_purchase_as_it_is(self):
        net = network()
        name = paid(net)
        net.claim(name)
        net.tick(I0)
        step(net)
        step(net)
        copy = net.double(numbers(net)[0])
        run_but(net, copy)
        net.fight(name)
        run_but(net, copy, A0)
        before = shows(net)
        journals = [net.journal(node) for node in net.nodes()]
        net.deliver(copy)
        self.assertEqual(messages(net), [(SWITCH, I0, ("claimed", name, 0))])
        run(net)
        self.assertEqual(shows(net), before)
        self.assertEqual([net.journal(node) for node in net.nodes()], journals)

    def test_a_fight_confirms_a_claim_whose_confirmation_was_lost(self):
        net = network()
        name = paid(net)
        net.claim(name)
        net.tick(I0)
        step(net)
        step(net)
        self.assertEqual(messages(net), [(A0, SWITCH, ("claimed", name, 0))])
        lose_all(net)
        net.fight(name)
        net.tick(A0)
        step(net)
        step(net)
        self.assertEqual(at_issuer(net, name), (name, 0, 1000, "fought", True))
        self.assertEqual(net.show(SWITCH)[1:3], ((), ()))
        lose_all(net)
        net.tick(I0)
        self.assertEqual(net.bag(), [])
        run(net, A0)
        self.assertEqual(net.show(SWITCH)[1:3], ((name,), (name,)))

    def test_a_claim_that_comes_first_after_the_fight_is_noted_once(self):
        net = network()
        name = paid(net)
        net.claim(name)
        net.tick(I0)
        copy = net.double(numbers(net)[0])
        net.deliver(numbers(net)[0])
        net.deliver(numbers(net)[-1])
        net.lose(numbers(net)[-1])
        self.assertEqual(numbers(net), [copy])
        net.fight(name)
        net.tick(A0)
        net.deliver(copy)
        for _ in range(2):
            net.deliver(numbers(net)[-1])
        self.assertEqual(net.show(SWITCH)[1:3], ((name,), ()))
        run(net)
        self.assertEqual(net.show(SWITCH)[1:3], ((name,), (name,)))
        net.settle()
        run(net)
        self.assertEqual((accounts(net, A0)[2], accounts(net, I0)[2]), (0, 0))


    def test_a_fight_of_what_is_not_claimed_is_not_answered(self):
        # No deeds lead here, so the issuer is asked by itself.
        for entries in ([("held", (0, 0), 0, 10)], [("held", (0, 0), 0, 10), ("posted", ((0, 0),))]):
            issuer = state_of(SETUP, I0, entries)
            before = (list(entries), issuer.told())
            self.assertEqual(issuer.hear(SWITCH, ("fight", (0, 0), 0)), [])
            self.assertEqual((entries, issuer.told()), before)


class ShortTest(unittest.TestCase):
    """What happens when the holder can spend less than the amount of a fought purchase."""

    def fight(self, spent, bring=granted):
        net = network((((1000,),), (1,), 100, 250))
        name = claimed(net, (0, 0), 600)
        if spent:
            bring(net, (0, 0), spent)
        net.fight(name)
        run(net, A0)
        self.assertEqual(both(net, name), ("fought", "fought"))
        return net

    def test_a_holder_that_has_just_the_amount_pays(self):
        net = self.fight(400)
        self.assertEqual(net.spendable((0, 0)), 0)
        self.assertEqual(accounts(net, I0), ((400,), 6, 594))

    def test_a_holder_that_has_one_less_keeps_it_and_the_issuer_pays(self):
        net = self.fight(401)
        self.assertEqual(net.spendable((0, 0)), 599)
        self.assertEqual(accounts(net, I0), ((1000,), -594, 594))
        self.assertEqual(net.total(), 1000)

    def test_what_is_posted_counts_as_spent(self):
        net = self.fight(401, posted)
        self.assertEqual(accounts(net, I0), ((599,), 4 - 594, 397 + 594))
        net = self.fight(400, posted)
        self.assertEqual(accounts(net, I0), ((0,), 4 + 6, 396 + 594))

    def test_a_holder_that_spent_nothing_pays(self):
        net = self.fight(0)
        self.assertEqual(accounts(net, I0), ((400,), 6, 594))

    def test_the_acquirer_is_paid_in_any_case(self):
        for spent in (400, 401, 1000):
            net = self.fight(spent)
            self.assertEqual(accounts(net, A0), ((585,), 9, -594))
            net.settle()
            rounds(net)
            self.assertEqual((accounts(net, A0)[2], accounts(net, I0)[2]), (0, 0))

    def test_the_greatest_amount(self):
        net = network((((10**9, 7),), (1,), 300, 500))
        name = claimed(net, (0, 0), 10**9)
        granted(net, (0, 0), 1)
        net.fight(name)
        run(net, A0)
        self.assertEqual(accounts(net, I0), ((10**9, 7), 30000000 - 10**9, 970000000))
        self.assertEqual(accounts(net, A0), ((950000000,), 20000000, -970000000))
        self.assertEqual(net.total(), 10**9 + 7)

    def test_a_fight_that_comes_again_costs_the_issuer_once(self):
        net = network((((1000,),), (1,), 0, 0))
        name = claimed(net, (0, 0), 600)
        granted(net, (0, 0), 500)
        net.fight(name)
        net.tick(A0)
        net.tick(A0)
        run(net)
        self.assertEqual(accounts(net, I0), ((1000,), -600, 600))


if __name__ == "__main__":
    unittest.main()
