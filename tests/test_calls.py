"""judge and total: ordinary inputs, the refusals and their order."""

import unittest

from poolday.pools import total
from tests.samples import (COUNTS, DAY, HIGHEST_CENTS, HIGHEST_POOL, POOLS, RACES, CallTest,
                           card_of, codes, pool_line)


class Ordinary(CallTest):
    def test_no_money_is_right_for_every_pool(self):
        for pool in range(len(POOLS)):
            self.assert_right(DAY, [], pool)

    def test_one_pair(self):
        for pool in range(len(POOLS)):
            self.assert_right(DAY, [1, 700], pool)

    def test_money_on_every_combination(self):
        for pool, count in enumerate(COUNTS):
            money = []
            for number in range(count):
                money += [number, number * 7 + 1]
            self.assert_right(DAY, money, pool)

    def test_total_adds_the_cents_and_not_the_numbers(self):
        self.assertEqual([0, 0], total(0, codes(DAY), []))
        self.assertEqual([0, 5], total(0, codes(DAY), [3, 5]))
        self.assertEqual([0, 1806], total(5, codes(DAY), [0, 1, 7, 5, 2000, 1800]))

    def test_pools_are_numbered_from_0_in_the_order_of_the_card(self):
        for pool, count in enumerate(COUNTS):
            self.assert_right(DAY, [count - 1, 1], pool)
            self.assert_refused(-3, DAY, [count, 1], pool)

    def test_as_many_pairs_as_may_be_handed_in(self):
        text = card_of(["24"], [pool_line("four", "order 4")])
        money = []
        for number in range(8000):
            money += [number * 31, 3]
        self.assert_right(text, money)


class Refusals(CallTest):
    def test_card_of_65536_bytes_is_read_and_a_longer_one_is_not(self):
        self.assert_refused(-8, DAY + "x" * (65536 - len(DAY)))
        self.assert_refused(-2, DAY + "x" * (65537 - len(DAY)))
        self.assert_refused(-8, "\n" * 65536)
        self.assert_refused(-2, "\n" * 65537)
        self.assert_refused(-2, "\n" * 66000)

    def test_no_card(self):
        self.assert_refused(-8, "")
        self.assert_refused(-8, "day")

    def test_no_such_pool(self):
        self.assert_right(DAY, [], len(POOLS) - 1)
        self.assert_refused(-4, DAY, [], len(POOLS))
        self.assert_refused(-4, DAY, [], HIGHEST_POOL)
        self.assert_refused(-4, card_of(RACES, []), [], 0)

    def test_wrong_money(self):
        self.assert_refused(-3, DAY, [0, 0])

    def test_a_card_too_long_comes_ahead_of_all(self):
        wrong = [0, 0]
        self.assert_refused(-2, DAY + "\n" * 65537, wrong, HIGHEST_POOL)
        self.assert_refused(-2, DAY + "\n" * 65537, [], 0)

    def test_no_card_comes_ahead_of_no_such_pool_and_wrong_money(self):
        self.assert_refused(-8, DAY + "\n", [0, 0], HIGHEST_POOL)
        self.assert_refused(-8, DAY + "\n", [0, 0], 0)
        self.assert_refused(-8, DAY + "\n", [], HIGHEST_POOL)

    def test_no_such_pool_comes_ahead_of_wrong_money(self):
        self.assert_refused(-4, DAY, [0, 0], len(POOLS))
        self.assert_refused(-4, DAY, [HIGHEST_POOL, HIGHEST_CENTS], HIGHEST_POOL)


if __name__ == "__main__":
    unittest.main()
