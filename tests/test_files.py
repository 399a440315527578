"""Promises [3.1] to [3.3]: files are made, sent until they are confirmed, posted and paid."""

import unittest

from scenes import (
    A0, A1, I0, I1, SWITCH, accounts, at_acquirer, at_issuer, both, claimed, fought, granted, granted_alone, lose_all,
    lose_all_but, messages, network, numbers, paid, posted, run, run_but, rounds, shows, stage, step,
)


class CloseTest(unittest.TestCase):
    def test_nothing_granted_makes_no_file(self):
        net = network()
        self.assertIsNone(net.close(0))
        net.purchase(0, 0, (0, 0), 1)
        self.assertIsNone(net.close(0))
        for bring in (posted, paid, claimed, fought):
            bring(net, (0, 0), 10, 1)
        journal, state = net.journal(A1), net.show(A1)
        self.assertIsNone(net.close(1))
        self.assertEqual((net.journal(A1), net.show(A1)), (journal, state))
        self.assertEqual(net.show(A0)[2], ())

    def test_files_are_numbered_from_0_for_each_acquirer(self):
        net = network()
        told = []
        for acquirer in (0, 1, 1, 0, 0):
            granted(net, (0, 0), 1, acquirer)
            told.append(net.close(acquirer))
        self.assertEqual(told, [0, 0, 1, 1, 2])
        # A call that makes no file takes no number.
        self.assertIsNone(net.close(0))
        granted(net, (0, 0), 1)
        self.assertEqual(net.close(0), 3)

    def test_all_that_is_granted_goes_into_one_file_by_the_numbers(self):
        net = network()
        names = [granted(net, card, amount) for card, amount in (((1, 0), 5), ((0, 0), 6), ((1, 0), 7), ((0, 1), 8))]
        other = granted(net, (0, 0), 9, 1)
        net.undo(names[2])
        asked = net.purchase(0, 0, (0, 0), 10)
        self.assertEqual(net.close(0), 0)
        self.assertEqual(net.show(A0)[2], (((0, 1, 3), False),))
        self.assertEqual([stage(net, name) for name in names], ["filed", "filed", "undoing", "filed"])
        self.assertEqual((stage(net, other), stage(net, asked)), ("granted", "asked"))
        self.assertEqual(net.show(A1)[2], ())

    def test_numbers_of_more_than_a_hundred_rise(self):
        net = network()
        for _ in range(130):
            net.purchase(0, 0, (0, 0), 1)
        net.tick(A0)
        while net.bag():
            net.deliver(numbers(net)[-1])
        net.close(0)
        self.assertEqual(net.show(A0)[2], ((tuple(range(130)), False),))
        net.tick(A0)
        (_, _, (_, _, _, rows)), = messages(net)
        self.assertEqual(rows, tuple(((0, n), (0, 0), 1) for n in range(130)))
        rounds(net)
        self.assertEqual({row[3] for row in net.show(A0)[1]}, {"paid"})
        self.assertEqual(accounts(net, I0), ((4870, 300), 0, 130))


class SendTest(unittest.TestCase):
    def test_step_by_step(self):
        net = network()
        name = granted(net, (0, 0), 1000, 0, 1)
        net.close(0)
        self.assertEqual(both(net, name), ("filed", "held"))
        row = (name, (0, 0), 1000)
        net.tick(A0)
        self.assertEqual(messages(net), [(A0, SWITCH, ("file", 0, 0, (row,)))])
        self.assertEqual(step(net), [(SWITCH, I0, ("post", 0, 0, 0, (row,)))])
        self.assertEqual(net.show(SWITCH)[0], (((0, 0), (row,), ()),))
        self.assertEqual(accounts(net, I0), ((5000, 300), 0, 0))
        self.assertEqual(step(net), [(I0, SWITCH, ("posted", 0, 0, 0))])
        self.assertEqual(at_issuer(net, name), (name, 0, 1000, "posted", False))
        self.assertEqual(accounts(net, I0), ((4000, 300), 10, 990))
        self.assertEqual(net.spendable((0, 0)), 4000)
        self.assertEqual(net.show(SWITCH)[0], (((0, 0), (row,), ()),))
        self.assertEqual(step(net), [])
        self.assertEqual(net.show(SWITCH)[0], (((0, 0), (row,), (0,)),))
        self.assertEqual(stage(net, name), "filed")
        net.tick(A0)
        self.assertEqual(step(net), [(SWITCH, A0, ("filed", 0, 0))])
        self.assertEqual(accounts(net, A0), ((0, 0), 0, 0))
        self.assertEqual(step(net), [])
        self.assertEqual(at_acquirer(net, name), (1, (0, 0), 1000, "paid", False))
        self.assertEqual(accounts(net, A0), ((0, 975), 15, -990))
        self.assertEqual(net.show(A0)[2], (((0,), True),))
        self.assertEqual(net.total(), 7300)

    def test_a_file_is_sent_at_each_tick_until_it_is_confirmed(self):
        net = network()
        name = granted(net)
        net.close(0)
        file = (A0, SWITCH, ("file", 0, 0, ((name, (0, 0), 1000),)))
        for many in (1, 2, 3):
            net.tick(A0)
            self.assertEqual(messages(net), [file] * many)
        lose_all(net)
        run(net, A0)
        net.tick(A0)
        self.assertEqual(messages(net), [file])
        run(net)
        for node in net.nodes():
            net.tick(node)
        self.assertEqual(net.bag(), [])

    def test_the_rows_of_each_issuer_in_their_order(self):
        net = network()
        cards = ((1, 0), (0, 1), (1, 0), (0, 0))
        rows = [(granted(net, card, 100 + n, 1), card, 100 + n) for n, card in enumerate(cards)]
        net.close(1)
        net.tick(A1)
        self.assertEqual(step(net), [
            (SWITCH, I0, ("post", 1, 0, 0, (rows[1], rows[3]))),
            (SWITCH, I1, ("post", 1, 0, 1, (rows[0], rows[2]))),
        ])
        self.assertEqual(net.show(SWITCH)[0], (((1, 0), tuple(rows), ()),))

    def test_an_issuer_without_rows_hears_nothing(self):
        net = network()
        name = granted(net, (1, 0), 100)
        net.close(0)
        net.tick(A0)
        self.assertEqual(step(net), [(SWITCH, I1, ("post", 0, 0, 1, ((name, (1, 0), 100),)))])
        run(net)
        self.assertEqual(net.show(SWITCH)[0][0][2], (1,))
        run(net, A0)
        self.assertEqual(stage(net, name), "paid")


class PostTest(unittest.TestCase):
    def two(self):
        """A file with rows of both issuers; both posts lie in the bag."""
        net = network()
        rows = ((granted(net, (0, 0), 100), (0, 0), 100), (granted(net, (1, 0), 200), (1, 0), 200))
        net.close(0)
        net.tick(A0)
        posts = [(SWITCH, ("issuer", j), ("post", 0, 0, j, (rows[j],))) for j in (0, 1)]
        self.assertEqual(step(net), posts)
        return net, posts

    def test_posts_go_at_each_tick_until_they_are_confirmed(self):
        net, posts = self.two()
        net.tick(SWITCH)
        self.assertEqual(messages(net), posts * 2)
        net.tick(SWITCH)
        self.assertEqual(messages(net), posts * 3)
        run(net)
        net.tick(SWITCH)
        self.assertEqual(net.bag(), [])

    def test_posts_go_to_those_that_have_not_confirmed(self):
        for first in (0, 1):
            net, posts = self.two()
            lose_all_but(net, numbers(net)[first])
            step(net)
            self.assertEqual(messages(net), [(("issuer", first), SWITCH, ("posted", 0, 0, first))])
            net.tick(SWITCH)
            self.assertEqual(messages(net)[1:], posts)
            lose_all_but(net, numbers(net)[0])
            step(net)
            self.assertEqual(net.show(SWITCH)[0][0][2], (first,))
            net.tick(SWITCH)
            self.assertEqual(messages(net), [posts[1 - first]])
            run(net)
            self.assertEqual(net.show(SWITCH)[0][0][2], (0, 1))

    def test_a_file_that_is_not_done_is_not_confirmed(self):
        net, _ = self.two()
        lose_all_but(net, numbers(net)[1])
        run(net)
        net.tick(A0)
        self.assertEqual(step(net), [])
        self.assertEqual(net.show(A0)[2], (((0, 1), False),))
        run(net, SWITCH)
        net.tick(A0)
        self.assertEqual(step(net), [(SWITCH, A0, ("filed", 0, 0))])

    def test_a_file_that_comes_again_is_posted_at_ticks_only(self):
        net, _ = self.two()
        lose_all(net)
        net.tick(A0)
        self.assertEqual(step(net), [])
        self.assertEqual(len(net.show(SWITCH)[0]), 1)

    def test_posts_go_by_acquirers_files_and_issuers(self):
        net = network()
        for acquirer in (1, 0, 1, 0):
            granted_alone(net, (1, 0), 3, acquirer)
            granted_alone(net, (0, 0), 4, acquirer)
            net.close(acquirer)
        for node in (A1, A0):
            net.tick(node)
        for number in reversed(numbers(net)):
            net.deliver(number)
        lose_all(net)
        net.tick(SWITCH)
        self.assertEqual([body[1:4] for _, _, body in messages(net)], [
            (0, 0, 0), (0, 0, 1), (0, 1, 0), (0, 1, 1), (1, 0, 0), (1, 0, 1), (1, 1, 0), (1, 1, 1),
        ])
        self.assertEqual([key for key, _, _ in net.show(SWITCH)[0]], [(0, 0), (0, 1), (1, 0), (1, 1)])

    def test_more_than_ten_files_go_by_their_numbers(self):
        net = network()
        for b in range(12):
            granted_alone(net, (0, 0), 1)
            self.assertEqual(net.close(0), b)
        net.tick(A0)
        self.assertEqual([body[2] for _, _, body in messages(net)], list(range(12)))
        for number in reversed(numbers(net)):
            net.deliver(number)
        lose_all(net)
        net.tick(SWITCH)
        self.assertEqual([body[1:3] for _, _, body in messages(net)], [(0, b) for b in range(12)])
        self.assertEqual([key for key, _, _ in net.show(SWITCH)[0]], [(0, b) for b in range(12)])

    def test_a_post_that_comes_again_posts_once_and_is_answered_again(self):
        net, _ = self.two()
        net.double(numbers(net)[0])
        net.double(numbers(net)[0])
        self.assertEqual(step(net).count((I0, SWITCH, ("posted", 0, 0, 0))), 3)
        self.assertEqual(accounts(net, I0), ((4900, 300), 1, 99))
        self.assertEqual(net.spendable((0, 0)), 4900)

    def test_a_posted_that_comes_again_changes_nothing(self):
        net, _ = self.two()
        step(net)
        copies = [net.double(number) for number in numbers(net)]
        net.deliver(numbers(net)[0])
        net.deliver(copies[0])
        self.assertEqual(net.show(SWITCH)[0][0][2], (0,))
        net.deliver(numbers(net)[0])
        before = net.show(SWITCH)
        net.deliver(copies[1])
        self.assertEqual(net.show(SWITCH), before)
        self.assertEqual(net.bag(), [])

    def test_a_late_post_does_not_post_a_claimed_or_fought_purchase(self):
        net = network()
        name = granted(net)
        net.close(0)
        net.tick(A0)
        step(net)
        (number, _, _, body), = net.bag()
        self.assertEqual(body[0], "post")
        copy = net.double(number)
        run_but(net, copy)
        run_but(net, copy, A0)
        net.claim(name)
        again = net.double(copy)
        before = accounts(net, I0)
        net.deliver(copy)
        self.assertEqual(accounts(net, I0), before)
        self.assertEqual(messages(net)[-1], (I0, SWITCH, ("posted", 0, 0, 0)))
        run_but(net, again, I0)
        net.fight(name)
        run_but(net, again, A0)
        before = shows(net)
        run(net)
        self.assertEqual(shows(net), before)
        self.assertEqual(both(net, name), ("fought", "fought"))


class FiledTest(unittest.TestCase):
    def test_a_filed_that_comes_again_pays_once(self):
        net = network()
        posted(net)
        net.tick(A0)
        net.tick(A0)
        self.assertEqual(step(net), [(SWITCH, A0, ("filed", 0, 0))] * 2)
        run(net)
        self.assertEqual(accounts(net, A0), ((975, 0), 15, -990))
        self.assertEqual(len([entry for entry in net.journal(A0) if entry[0] == "paid"]), 1)

    def test_a_late_filed_does_not_pay_a_claimed_purchase_again(self):
        net = network()
        name = posted(net)
        net.tick(A0)
        step(net)
        copy = net.double(numbers(net)[0])
        run_but(net, copy)
        net.claim(name)
        run_but(net, copy, I0)
        before = shows(net)
        self.assertEqual(both(net, name), ("claimed", "claimed"))
        run(net)
        self.assertEqual(shows(net), before)

    def test_files_are_confirmed_each_by_itself(self):
        net = network()
        one = granted(net, (0, 0), 100)
        net.close(0)
        other = granted_alone(net, (1, 0), 200)
        net.close(0)
        rounds(net, 3)
        lose_all(net)
        net.tick(A0)
        first, second = numbers(net)
        net.lose(first)
        net.deliver(second)
        run(net)
        self.assertEqual((stage(net, one), stage(net, other)), ("filed", "paid"))
        self.assertEqual(net.show(A0)[2], (((0,), False), ((1,), True)))
        net.tick(A0)
        self.assertEqual([body[2] for _, _, body in messages(net)], [0])
        run(net)
        self.assertEqual(net.show(A0)[2], (((0,), True), ((1,), True)))

    def test_the_same_number_at_another_acquirer_is_another_file(self):
        net = network()
        one, other = granted(net, (0, 0), 100, 0), granted(net, (0, 0), 200, 1)
        net.close(0)
        net.close(1)
        run(net, A1)
        run(net, A1)
        self.assertEqual((stage(net, one), stage(net, other)), ("filed", "paid"))
        self.assertEqual(net.show(SWITCH)[0], (((1, 0), ((other, (0, 0), 200),), (0,)),))


class AccountsTest(unittest.TestCase):
    """Accounts behind posting and paying: (amount, share, fee) with a - p, p, a - f, f - p."""

    CASES = (
        ((1, 300, 500), (1, 0, 1, 0)),
        ((1, 0, 0), (1, 0, 1, 0)),
        ((10**9, 0, 0), (10**9, 0, 10**9, 0)),
        ((10**9, 0, 500), (10**9, 0, 950000000, 50000000)),
        ((10**9, 300, 300), (970000000, 30000000, 970000000, 0)),
        ((10**9, 300, 500), (970000000, 30000000, 950000000, 20000000)),
        ((33, 300, 500), (33, 0, 32, 1)),
        ((34, 300, 500), (33, 1, 33, 0)),
        ((12345, 150, 275), (12160, 185, 12006, 154)),
    )

    def test_accounts(self):
        for (amount, share, fee), (cleared, part, pay, income) in self.CASES:
            with self.subTest(amount=amount, share=share, fee=fee):
                net = network((((10**9,),), (2,), share, fee))
                posted(net, (0, 0), amount, 0, 1)
                self.assertEqual(accounts(net, I0), ((10**9 - amount,), part, cleared))
                self.assertEqual(accounts(net, A0), ((0, 0), 0, 0))
                run(net, A0)
                self.assertEqual(accounts(net, A0), ((0, pay), income, -cleared))
                self.assertEqual(net.total(), 10**9)

    def test_all_that_a_holder_has_can_be_posted(self):
        net = network()
        posted(net, (0, 1), 300)
        self.assertEqual(accounts(net, I0), ((5000, 0), 3, 297))
        self.assertEqual(net.spendable((0, 1)), 0)

    def test_parts_are_cut_off_for_each_purchase(self):
        net = network((((100,),), (1,), 300, 500))
        for _ in range(3):
            granted(net, (0, 0), 33)
        net.close(0)
        rounds(net)
        self.assertEqual(accounts(net, I0), ((1,), 0, 99))
        self.assertEqual(accounts(net, A0), ((96,), 3, -99))

    def test_each_merchant_and_holder_has_its_own(self):
        net = network()
        for card, acquirer, merchant in (((0, 0), 0, 1), ((0, 1), 1, 0), ((1, 0), 0, 0)):
            granted(net, card, 200, acquirer, merchant)
        net.close(0)
        net.close(1)
        rounds(net)
        self.assertEqual(accounts(net, A0), ((195, 195), 6, -396))
        self.assertEqual(accounts(net, A1), ((195,), 3, -198))
        self.assertEqual(accounts(net, I0), ((4800, 100), 4, 396))
        self.assertEqual(accounts(net, I1), ((1800,), 2, 198))


if __name__ == "__main__":
    unittest.main()
