"""Promises [1.1] and [1.3], and those under acquit/money.py of the interface."""

import itertools
import unittest

from acquit import money
from acquit.errors import BadSetup
from acquit.money import check_setup, parts

GOOD = (((5, 10), (0,)), (1, 3), 100, 250)
NO_NUMBERS = (True, False, None, "", "1", (), (1,), ((1,),))
NO_TUPLES = (True, False, None, "", "1", "ab", "abcd", 0, 1, 4, -1)
AMOUNTS = (0, 1, 2, 33, 34, 49, 50, 99, 100, 101, 1999, 2000, 9999, 10000, 10001, 123456789, 10**9)
RATES = ((0, 0), (0, 1), (0, 500), (1, 1), (1, 500), (100, 100), (199, 367), (300, 300), (300, 499), (300, 500))


def changed(at, value):
    """The good setup with another value at one place."""
    return GOOD[:at] + (value,) + GOOD[at + 1:]


class PartsTest(unittest.TestCase):
    def test_ordinary_amounts(self):
        self.assertEqual(parts(1000, 100, 200), (10, 20))
        self.assertEqual(parts(12345, 150, 275), (185, 339))
        self.assertEqual(parts(99999, 20, 90), (199, 899))

    def test_the_least_and_the_greatest_amount(self):
        self.assertEqual(parts(0, 300, 500), (0, 0))
        self.assertEqual(parts(1, 300, 500), (0, 0))
        self.assertEqual(parts(10**9, 300, 500), (30000000, 50000000))
        self.assertEqual(parts(10**9, 1, 3), (100000, 300000))

    def test_bounds_of_share_and_fee(self):
        self.assertEqual(parts(54321, 0, 0), (0, 0))
        self.assertEqual(parts(54321, 0, 500), (0, 2716))
        self.assertEqual(parts(54321, 300, 300), (1629, 1629))
        self.assertEqual(parts(54321, 300, 500), (1629, 2716))

    def test_the_rest_is_cut_off(self):
        self.assertEqual([parts(a, 300, 500) for a in (33, 34)], [(0, 1), (1, 1)])
        self.assertEqual([parts(a, 300, 500)[1] for a in (19, 20, 21)], [0, 1, 1])
        self.assertEqual([parts(a, 100, 200) for a in (99, 100, 101)], [(0, 1), (1, 2), (1, 2)])
        self.assertEqual([parts(a, 100, 200) for a in (49, 50, 51)], [(0, 0), (0, 1), (0, 1)])
        self.assertEqual([parts(a, 1, 1) for a in (9999, 10000, 10001)], [(0, 0), (1, 1), (1, 1)])
        self.assertEqual([parts(a, 1, 1) for a in (19999, 20000)], [(1, 1), (2, 2)])

    def test_big_amounts_are_exact(self):
        self.assertEqual(parts(999999999, 300, 500), (29999999, 49999999))
        self.assertEqual(parts(10**30 - 1, 300, 500), (3 * 10**28 - 1, 5 * 10**28 - 1))

    def test_the_answer_is_a_pair_of_whole_numbers_in_order(self):
        for amount, (share, fee) in itertools.product(AMOUNTS, RATES):
            with self.subTest(amount=amount, share=share, fee=fee):
                answer = parts(amount, share, fee)
                self.assertIs(type(answer), tuple)
                self.assertEqual([type(part) for part in answer], [int, int])
                part, charge = answer
                self.assertLessEqual(0, part)
                self.assertLessEqual(part, charge)
                self.assertLessEqual(charge, amount)

    def test_the_part_of_a_sum_is_the_sum_of_the_parts_or_one_more(self):
        for one, other, (share, fee) in itertools.product(AMOUNTS, AMOUNTS, RATES):
            with self.subTest(one=one, other=other, share=share, fee=fee):
                whole = parts(one + other, share, fee)
                sums = [a + b for a, b in zip(parts(one, share, fee), parts(other, share, fee))]
                for together, apart in zip(whole, sums):
                    self.assertIn(together - apart, (0, 1))


class CheckSetupTest(unittest.TestCase):
    def good(self, setup):
        with self.subTest(setup=setup):
            self.assertIsNone(check_setup(setup))

    def bad(self, setup):
        with self.subTest(setup=setup):
            with self.assertRaises(ValueError) as caught:
                check_setup(setup)
            self.assertIs(type(caught.exception), BadSetup)
            self.assertEqual(caught.exception.args, ())

    def test_one_and_two_issuers_with_one_to_three_holders(self):
        rows = ((0,), (7,), (10**9,), (1, 2), (0, 10**9), (1, 2, 3), (10**9, 0, 10**9))
        for row in rows:
            self.good(changed(0, (row,)))
        for pair in itertools.product(rows, rows):
            self.good(changed(0, pair))

    def test_one_and_two_acquirers_with_one_to_three_merchants(self):
        for one in (1, 2, 3):
            self.good(changed(1, (one,)))
            for other in (1, 2, 3):
                self.good(changed(1, (one, other)))

    def test_bounds_of_share_and_fee(self):
        for share, fee in RATES:
            self.good((*GOOD[:2], share, fee))

    def test_every_share_with_its_fees(self):
        for share in range(0, 301):
            self.good((*GOOD[:2], share, share))
            self.good((*GOOD[:2], share, 500))
            self.bad((*GOOD[:2], share, share - 1))
            self.bad((*GOOD[:2], share, 501))

    def test_number_of_issuers(self):
        self.bad(changed(0, ()))
        self.bad(changed(0, ((1,), (2,), (3,))))

    def test_number_of_holders(self):
        for row in ((), (1, 2, 3, 4)):
            self.bad(changed(0, (row,)))
            self.bad(changed(0, (row, (1,))))
            self.bad(changed(0, ((1,), row)))

    def test_amounts_of_holders(self):
        for amount in (-1, -(10**9), 10**9 + 1, 10**30, *NO_NUMBERS):
            self.bad(changed(0, ((amount,),)))
            self.bad(changed(0, ((1, 2, amount),)))
            self.bad(changed(0, ((1, 2), (amount, 3))))

    def test_number_of_acquirers(self):
        self.bad(changed(1, ()))
        self.bad(changed(1, (1, 1, 1)))

    def test_numbers_of_merchants(self):
        for many in (0, 4, -1, 10**30, *NO_NUMBERS):
            self.bad(changed(1, (many,)))
            self.bad(changed(1, (many, 1)))
            self.bad(changed(1, (1, many)))

    def test_share_out_of_bounds(self):
        for share in (-1, -300, 301, 10**30):
            self.bad((*GOOD[:2], share, 500))
            self.bad((*GOOD[:2], share, share))

    def test_fee_out_of_bounds(self):
        for fee in (-1, 0, 99, 501, 10**30):
            self.bad(changed(3, fee))

    def test_share_and_fee_that_are_no_numbers(self):
        for value in NO_NUMBERS:
            self.bad(changed(2, value))
            self.bad(changed(3, value))
            self.bad((*GOOD[:2], 0, value))
            self.bad((*GOOD[:2], value, value))

    def test_tuples_of_another_length(self):
        for setup in ((), GOOD[:1], GOOD[:3], GOOD[1:], (*GOOD, 0), (*GOOD, None), GOOD + GOOD, (GOOD,)):
            self.bad(setup)

    def test_parts_that_are_no_tuples(self):
        for value in NO_TUPLES:
            self.bad(changed(0, value))
            self.bad(changed(0, (value,)))
            self.bad(changed(0, (value, (1,))))
            self.bad(changed(0, ((1,), value)))
            self.bad(changed(1, value))

    def test_what_is_no_tuple(self):
        for value in NO_TUPLES:
            self.bad(value)

    def test_parts_in_another_order(self):
        for order in itertools.permutations(range(4)):
            if order != (0, 1, 2, 3):
                self.bad(tuple(GOOD[at] for at in order))

    def test_deep_tuples(self):
        deep = ()
        for _ in range(5000):
            deep = (deep,)
        # No subTest here: Python cannot show a value that is nested so deep.
        for setup in (deep, changed(0, deep), changed(1, deep), changed(2, deep), changed(3, deep)):
            with self.assertRaises(BadSetup):
                check_setup(setup)


class InterfaceTest(unittest.TestCase):
    def test_the_functions_are_defined_in_their_file(self):
        for name in ("parts", "check_setup"):
            with self.subTest(name=name):
                self.assertEqual(getattr(money, name).__name__, name)
                self.assertEqual(getattr(money, name).__module__, "acquit.money")

    def test_arguments_have_the_names_of_the_interface(self):
        self.assertEqual(parts(amount=10000, share=1, fee=2), (1, 2))
        self.assertIsNone(check_setup(setup=GOOD))

    def test_the_setup_stays_as_it_was(self):
        setup = (((5, 10), (0,)), (1, 3), 100, 250)
        check_setup(setup)
        self.assertEqual(setup, GOOD)


if __name__ == "__main__":
    unittest.main()
