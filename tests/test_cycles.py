"""Promises [5.1] and [5.2]: what the switch notes, once each; cycles and their sums."""

import unittest

from acquit.errors import Stopped
from scenes import (
    A0, A1, I0, I1, SWITCH, accounts, both, claimed, fought, granted, lose_all, lose_all_but, messages, network,
    numbers, paid, posted, run, rounds, snapshot, step,
)


def cycles(net):
    return net.show(SWITCH)[3]


class SumsTest(unittest.TestCase):
    def test_nothing_to_be_settled_makes_no_cycle(self):
        net = network()
        granted(net)
        before = snapshot(net)
        self.assertIsNone(net.settle())
        self.assertEqual(snapshot(net), before)

    def test_a_file_that_is_not_done_is_not_noted(self):
        net = network()
        granted(net, (0, 0), 100)
        granted(net, (1, 0), 200)
        net.close(0)
        net.tick(A0)
        step(net)
        lose_all_but(net, numbers(net)[0])
        run(net)
        self.assertEqual(net.show(SWITCH)[0][0][2], (0,))
        self.assertIsNone(net.settle())
        net.tick(SWITCH)
        step(net)
        self.assertIsNone(net.settle())
        step(net)
        self.assertEqual(net.settle(), 0)
        self.assertEqual(cycles(net), ((((A0, 297), (I0, -99), (I1, -198)), ()),))

    def test_a_file_is_noted_when_it_is_done_before_the_acquirer_hears(self):
        net = network()
        name = posted(net)
        self.assertEqual(both(net, name), ("filed", "posted"))
        self.assertEqual(net.settle(), 0)
        self.assertEqual(cycles(net), ((((A0, 990), (I0, -990)), ()),))
        run(net)
        self.assertEqual(accounts(net, A0), ((0, 0), 0, 990))
        run(net, A0)
        self.assertEqual(accounts(net, A0), ((975, 0), 15, 0))

    def test_sums_of_rows_of_two_acquirers_and_two_issuers(self):
        net = network()
        for card, amount, acquirer in (((0, 0), 1000, 0), ((0, 1), 99, 1), ((1, 0), 500, 0), ((1, 0), 100, 1)):
            paid(net, card, amount, acquirer)
        self.assertEqual(net.settle(), 0)
        self.assertEqual(cycles(net), ((((A0, 1485), (A1, 198), (I0, -1089), (I1, -594)), ()),))
        rounds(net)
        self.assertEqual([accounts(net, node)[2] for node in (A0, A1, I0, I1)], [0, 0, 0, 0])
        self.assertEqual(net.total(), 7300)

    def test_each_thing_is_settled_once(self):
        net = network()
        paid(net, (0, 0), 1000)
        self.assertEqual(net.settle(), 0)
        self.assertIsNone(net.settle())
        paid(net, (0, 0), 100)
        self.assertEqual(net.settle(), 1)
        self.assertIsNone(net.settle())
        self.assertEqual([sums for sums, _ in cycles(net)], [((A0, 990), (I0, -990)), ((A0, 99), (I0, -99))])

    def test_the_least_and_the_greatest_amount(self):
        for amount, share, fee, net_sum in (
            (1, 0, 0, 1), (1, 300, 500, 1), (10**9, 0, 0, 10**9), (10**9, 300, 500, 970000000), (33, 300, 300, 33),
            (34, 300, 300, 33),
        ):
            net = network((((10**9,),), (1,), share, fee))
            paid(net, (0, 0), amount)
            self.assertEqual(net.settle(), 0)
            self.assertEqual(cycles(net), ((((A0, net_sum), (I0, -net_sum)), ()),))
            run(net)
            self.assertEqual([accounts(net, node)[2] for node in (A0, I0)], [0, 0])

    def test_parts_are_cut_off_for_each_row(self):
        net = network((((100,),), (1,), 300, 500))
        for _ in range(3):
            granted(net, (0, 0), 33)
        net.close(0)
        rounds(net)
        net.settle()
        self.assertEqual(cycles(net), ((((A0, 99), (I0, -99)), ()),))

    def test_a_claim_alone_goes_the_other_way_round(self):
        net = network()
        name = paid(net)
        net.settle()
        run(net)
        net.claim(name)
        run(net, I0)
        self.assertEqual(net.settle(), 1)
        self.assertEqual(cycles(net)[1], (((A0, -990), (I0, 990)), ()))
        run(net)
        self.assertEqual([accounts(net, node)[2] for node in (A0, I0)], [0, 0])

    def test_a_file_and_the_claim_of_its_one_purchase_make_no_cycle(self):
        net = network()
        name = claimed(net)
        self.assertIsNone(net.settle())
        self.assertEqual(cycles(net), ())
        self.assertEqual(net.bag(), [])
        net.fight(name)
        run(net, A0)
        self.assertEqual(net.settle(), 0)
        self.assertEqual(cycles(net), ((((A0, 990), (I0, -990)), ()),))
        run(net)
        self.assertEqual([accounts(net, node)[2] for node in (A0, I0)], [0, 0])

    def test_sums_of_0_stay_settled_when_the_switch_starts_again(self):
        net = network()
        name = claimed(net)
        self.assertIsNone(net.settle())
        net.stop(SWITCH)
        net.start(SWITCH)
        self.assertIsNone(net.settle())
        net.fight(name)
        run(net, A0)
        self.assertEqual(net.settle(), 0)
        self.assertEqual(cycles(net)[0][0], ((A0, 990), (I0, -990)))

    def test_a_node_whose_sum_is_0_is_not_in_the_cycle(self):
        net = network()
        claimed(net, (0, 0), 1000, 1)
        paid(net, (1, 0), 500, 0)
        self.assertEqual(net.settle(), 0)
        self.assertEqual(cycles(net), ((((A0, 495), (I1, -495)), ()),))
        self.assertEqual(messages(net), [(SWITCH, A0, ("settle", 0, 495)), (SWITCH, I1, ("settle", 0, -495))])
        run(net)
        self.assertEqual([net.show(node)[-1] for node in (A0, A1, I0, I1)], [(0,), (), (), (0,)])

    def test_an_acquirer_whose_sums_even_out(self):
        # What A0 is owed for the card of I0 it owes for the card of I1.
        net = network()
        name = paid(net, (1, 0), 500, 0)
        net.settle()
        run(net)
        net.claim(name)
        run(net, I1)
        paid(net, (0, 0), 500, 0)
        self.assertEqual(net.settle(), 1)
        self.assertEqual(cycles(net)[1][0], ((I0, -495), (I1, 495)))

    def test_a_fight_is_noted_with_its_claim(self):
        net = network()
        name = paid(net)
        net.claim(name)
        net.tick(I0)
        step(net)
        step(net)
        lose_all(net)
        self.assertEqual(net.settle(), 0)
        lose_all(net)
        net.fight(name)
        run(net, A0)
        self.assertEqual(net.show(SWITCH)[1:3], ((name,), (name,)))
        # The file stands in the first cycle; claim and fight even out.
        self.assertIsNone(net.settle())
        rounds(net)
        self.assertEqual([accounts(net, node)[2] for node in (A0, I0)], [0, 0])

    def test_claim_and_fight_in_different_cycles(self):
        net = network()
        name = paid(net)
        self.assertEqual(net.settle(), 0)
        net.claim(name)
        run(net, I0)
        self.assertEqual(net.settle(), 1)
        net.fight(name)
        run(net, A0)
        self.assertEqual(net.settle(), 2)
        sums = [((A0, sign * 990), (I0, -sign * 990)) for sign in (1, -1, 1)]
        self.assertEqual([told for told, _ in cycles(net)], sums)
        rounds(net)
        self.assertEqual([accounts(net, node)[2] for node in (A0, I0)], [0, 0])

    def test_a_claim_is_noted_when_its_confirmation_is_heard(self):
        net = network()
        name = paid(net)
        net.settle()
        run(net)
        net.claim(name)
        net.tick(I0)
        for _ in range(2):
            step(net)
            self.assertIsNone(net.settle())
        step(net)
        self.assertEqual(net.settle(), 1)

    def test_a_fight_is_noted_when_its_confirmation_is_heard(self):
        net = network()
        name = claimed(net)
        self.assertIsNone(net.settle())
        net.fight(name)
        net.tick(A0)
        for _ in range(2):
            step(net)
            self.assertIsNone(net.settle())
        step(net)
        self.assertEqual(net.settle(), 0)

    def test_what_comes_again_is_noted_once(self):
        net = network()
        granted(net)
        net.close(0)

        def doubled(*ticking):
            for node in ticking:
                net.tick(node)
            while net.bag():
                for number in numbers(net):
                    if number % 3 == 0:
                        net.double(number)
                    net.deliver(number)

        for node in (A0, A0, SWITCH, A0):
            doubled(node, node)
        self.assertEqual(net.settle(), 0)
        net.claim((0, 0))
        doubled(I0, I0, I0)
        self.assertEqual(net.settle(), 1)
        net.fight((0, 0))
        doubled(A0, A0, A0)
        self.assertEqual(net.settle(), 2)
        self.assertEqual([sums[0] for sums, _ in cycles(net)], [(A0, 990), (A0, -990), (A0, 990)])


class SettleTest(unittest.TestCase):
    def test_step_by_step(self):
        net = network()
        paid(net, (1, 0), 1000, 1)
        self.assertEqual(net.settle(), 0)
        settles = [(SWITCH, A1, ("settle", 0, 990)), (SWITCH, I1, ("settle", 0, -990))]
        self.assertEqual(messages(net), settles)
        self.assertEqual(accounts(net, A1), ((975,), 15, -990))
        self.assertEqual(step(net), [(A1, SWITCH, ("settled", 0)), (I1, SWITCH, ("settled", 0))])
        self.assertEqual(accounts(net, A1), ((975,), 15, 0))
        self.assertEqual(accounts(net, I1), ((1000,), 10, 0))
        self.assertEqual((net.show(A1)[3], net.show(I1)[2]), ((0,), (0,)))
        self.assertEqual(cycles(net)[0][1], ())
        net.deliver(numbers(net)[1])
        self.assertEqual(cycles(net)[0][1], (I1,))
        net.deliver(numbers(net)[0])
        self.assertEqual(cycles(net), ((((A1, 990), (I1, -990)), (A1, I1)),))
        self.assertEqual(net.bag(), [])

    def test_settles_go_at_each_tick_until_they_are_confirmed(self):
        net = network()
        paid(net)
        net.settle()
        settles = [(SWITCH, A0, ("settle", 0, 990)), (SWITCH, I0, ("settle", 0, -990))]
        for many in (2, 3):
            net.tick(SWITCH)
            self.assertEqual(messages(net), settles * many)
        lose_all_but(net, numbers(net)[0])
        run(net)
        net.tick(SWITCH)
        self.assertEqual(messages(net), settles[1:])
        run(net)
        net.tick(SWITCH)
        self.assertEqual(net.bag(), [])

    def test_a_settle_that_comes_again_is_added_once_and_answered_again(self):
        net = network()
        paid(net)
        net.settle()
        net.tick(SWITCH)
        net.tick(SWITCH)
        told = step(net)
        self.assertEqual(told, [(A0, SWITCH, ("settled", 0)), (I0, SWITCH, ("settled", 0))] * 3)
        self.assertEqual([accounts(net, node)[2] for node in (A0, I0)], [0, 0])
        journal = None
        for number in numbers(net):
            net.deliver(number)
            journal = journal or net.journal(SWITCH)
        self.assertEqual(cycles(net)[0][1], (A0, I0))
        self.assertEqual(len(net.journal(SWITCH)), len(journal) + 1)

    def test_cycles_are_added_in_any_order(self):
        net = network()
        for c, amount in enumerate((1000, 100, 200)):
            paid(net, (0, 0), amount)
            self.assertEqual(net.settle(), c)
            run_all_but_settles(net)
        self.assertEqual(accounts(net, A0)[2], -990 - 99 - 198)
        net.tick(SWITCH)
        self.assertEqual([body for _, _, body in messages(net)], [
            ("settle", 0, 990), ("settle", 0, -990), ("settle", 1, 99), ("settle", 1, -99), ("settle", 2, 198),
            ("settle", 2, -198),
        ])
        net.deliver(numbers(net)[4])
        self.assertEqual((net.show(A0)[3], accounts(net, A0)[2]), ((2,), -990 - 99))
        net.deliver(numbers(net)[0])
        self.assertEqual((net.show(A0)[3], accounts(net, A0)[2]), ((0, 2), -99))
        run(net)
        self.assertEqual((net.show(A0)[3], accounts(net, A0)[2]), ((0, 1, 2), 0))
        self.assertEqual((net.show(I0)[2], accounts(net, I0)[2]), ((0, 1, 2), 0))
        self.assertEqual([confirmed for _, confirmed in cycles(net)], [(A0, I0)] * 3)

    def test_more_than_ten_cycles_rise(self):
        net = network()
        for c in range(12):
            paid(net, (0, 0), 1)
            self.assertEqual(net.settle(), c)
            lose_all(net)
            lose_settles(net)
        net.tick(SWITCH)
        self.assertEqual([body[1] for _, _, body in messages(net)], [c for c in range(12) for _ in range(2)])
        while net.bag():
            net.deliver(numbers(net)[-1])
        self.assertEqual((net.show(A0)[3], net.show(I0)[2]), (tuple(range(12)), tuple(range(12))))

    def test_posts_go_ahead_of_settles(self):
        net = network()
        paid(net)
        granted(net, (1, 0), 100)
        net.close(0)
        net.tick(A0)
        step(net)
        net.settle()
        lose_all(net)
        net.tick(SWITCH)
        self.assertEqual([(receiver, body[0]) for _, receiver, body in messages(net)], [
            (I1, "post"), (A0, "settle"), (I0, "settle"),
        ])

    def test_a_settled_confirms_for_its_sender_alone(self):
        net = network()
        paid(net, (0, 0), 100, 0)
        paid(net, (1, 0), 100, 1)
        net.settle()
        step(net)
        self.assertEqual([sender for sender, _, _ in messages(net)], [A0, A1, I0, I1])
        for index, told in ((2, (I0,)), (1, (A1, I0)), (1, (A1, I0, I1)), (0, (A0, A1, I0, I1))):
            net.deliver(numbers(net)[index])
            self.assertEqual(cycles(net)[0][1], told)

    def test_a_stopped_switch_makes_no_cycle(self):
        net = network()
        paid(net)
        net.stop(SWITCH)
        before = snapshot(net)
        with self.assertRaises(Stopped):
            net.settle()
        self.assertEqual(snapshot(net), before)
        net.start(SWITCH)
        self.assertEqual(net.settle(), 0)

    def test_fought_purchases_clear_to_0(self):
        net = network()
        fought(net, (0, 0), 1000, 0)
        fought(net, (1, 0), 500, 1)
        rounds(net)
        net.settle()
        rounds(net)
        self.assertEqual([accounts(net, node)[2] for node in (A0, A1, I0, I1)], [0, 0, 0, 0])


def lose_settles(net):
    """Deliver what lies in the bag, but not the settles."""
    for number, _, _, body in net.bag():
        if body[0] == "settle":
            net.lose(number)
        else:
            net.deliver(number)


def run_all_but_settles(net):
    while net.bag():
        lose_settles(net)


if __name__ == "__main__":
    unittest.main()
