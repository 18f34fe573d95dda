"""join: the money of two houses in one pool."""

import unittest

from poolday.pools import join
from tests.samples import (COUNTS, DAY, HIGHEST_CENTS, HIGHEST_POOL, MOST_CENTS, POOLS, CallTest, card_of, codes,
                           money_on, pool_line)

CARD = codes(DAY)


class Joined(CallTest):
    def assert_joined(self, after, money, other, pool=0):
        self.assert_answer([0] + after, join(pool, CARD, money, other))
        self.assert_answer([0] + after, join(pool, CARD, other, money))

    def test_no_money_with_no_money(self):
        for pool in range(len(POOLS)):
            self.assert_joined([], [], [], pool)

    def test_one_of_the_two_is_empty(self):
        for pool, count in enumerate(COUNTS):
            for money in ([0, 7], [count - 1, 7], [0, 7, 2, 9], money_on(range(count), 5), [1, MOST_CENTS]):
                self.assert_joined(money, money, [], pool)

    def test_numbers_that_stand_in_one(self):
        self.assert_joined([0, 5, 1, 6, 2, 7, 3, 8], [0, 5, 1, 6], [2, 7, 3, 8])
        self.assert_joined([0, 5, 1, 6, 2, 7, 3, 8], [0, 5, 2, 7], [1, 6, 3, 8])
        self.assert_joined([0, 5, 1, 6, 2, 7, 3, 8], [0, 5, 3, 8], [1, 6, 2, 7])
        self.assert_joined([3, 8, 11, 1], [11, 1], [3, 8], 2)

    def test_numbers_that_stand_in_both(self):
        self.assert_joined([0, 12], [0, 5], [0, 7])
        self.assert_joined([0, 6, 3, 60], [0, 5, 3, 50], [0, 1, 3, 10])
        self.assert_joined([0, 5, 1, 13, 2, 9], [0, 5, 1, 6], [1, 7, 2, 9])
        self.assert_joined([0, 5, 1, 13, 3, 9], [1, 6], [0, 5, 1, 7, 3, 9])

    def test_one_and_the_same_list(self):
        money = [0, 5, 1, 6, 3, 9]
        self.assert_answer([0, 0, 10, 1, 12, 3, 18], join(0, CARD, money, money))
        self.assertEqual([0, 5, 1, 6, 3, 9], money)
        empty = []
        self.assert_answer([0], join(0, CARD, empty, empty))

    def test_as_many_pairs_as_may_be_handed_in(self):
        card = codes(card_of(["24"], [pool_line("p", "order 4")]))
        evens = money_on(range(0, 16000, 2), 3)
        odds = money_on(range(1, 16000, 2), 3)
        self.assertEqual([0] + money_on(range(16000), 3), join(0, card, evens, odds))
        self.assertEqual([0] + money_on(range(16000), 3), join(0, card, odds, evens))
        self.assertEqual([0] + money_on(range(0, 16000, 2), 6), join(0, card, evens, evens))


class Limits(CallTest):
    def assert_both(self, answer, money, other):
        self.assert_answer(answer, join(0, CARD, money, other))
        self.assert_answer(answer, join(0, CARD, other, money))

    def test_all_cents_together(self):
        half = 2 ** 47
        self.assert_both([0, 0, MOST_CENTS], [0, half], [0, half - 1])
        self.assert_both([-9], [0, half], [0, half])
        self.assert_both([0, 0, half, 3, half - 1], [0, half], [3, half - 1])
        self.assert_both([-9], [0, half], [3, half])
        self.assert_both([0, 0, MOST_CENTS], [0, MOST_CENTS], [])
        self.assert_both([0, 0, MOST_CENTS - 1, 1, 1], [0, MOST_CENTS - 1], [1, 1])
        self.assert_both([-9], [0, MOST_CENTS], [0, 1])
        self.assert_both([-9], [0, MOST_CENTS], [1, 1])
        self.assert_both([-9], [0, MOST_CENTS], [0, MOST_CENTS])
        self.assert_both([-9], [0, MOST_CENTS], [3, MOST_CENTS])

    def test_more_than_262144_pairs(self):
        card = codes(card_of(["24"] * 6, [pool_line("p", "legs 6")]))
        most = money_on(range(262144), 1)
        self.assertEqual([0] + most, join(0, card, most[:200000], most[200000:]))
        self.assertEqual([0] + money_on(range(262144), 2), join(0, card, most, most))
        self.assert_answer([-9], join(0, card, most, [262144, 1]))
        self.assert_answer([-9], join(0, card, [262144, 1], most))


class Refusals(CallTest):
    WRONG = [[0, 0], [1, 5, 0, 5], [1, 5, 1, 5], [4, 5], [0, MOST_CENTS + 1], [0, MOST_CENTS, 1, 1],
             [0, HIGHEST_CENTS], [HIGHEST_POOL, 1], [0, 5, 1, 0]]

    def assert_join(self, refusal, text, pool, money, other):
        self.assert_answer([refusal], join(pool, codes(text), money, other))

    def test_the_first_wrong_the_second_wrong_or_both(self):
        for wrong in self.WRONG:
            for right in ([], [0, 5], [3, MOST_CENTS]):
                self.assert_join(-3, DAY, 0, wrong, right)
                self.assert_join(-3, DAY, 0, right, wrong)
            for other in self.WRONG:
                self.assert_join(-3, DAY, 0, wrong, other)

    def test_what_would_be_right_together_is_still_wrong(self):
        self.assert_join(-3, DAY, 0, [0, 0], [0, 5])
        self.assert_join(-3, DAY, 0, [0, 5], [0, 0])

    def test_their_order(self):
        for money in ([], [0, 0]):
            for other in ([], [0, 0], [0, MOST_CENTS]):
                for pool in (0, len(POOLS), HIGHEST_POOL):
                    self.assert_join(-2, DAY + "\n" * 65537, pool, money, other)
                    self.assert_join(-8, DAY + "\n", pool, money, other)
                    self.assert_join(-8, "", pool, money, other)
                for pool in (len(POOLS), HIGHEST_POOL):
                    self.assert_join(-4, DAY, pool, money, other)
        self.assert_join(-3, DAY, 0, [0, MOST_CENTS], [0, MOST_CENTS, 1, 0])
        self.assert_join(-3, DAY, 0, [0, 0], [0, MOST_CENTS])
        self.assert_join(-9, DAY, 0, [0, MOST_CENTS], [0, MOST_CENTS])

    def test_a_card_of_65536_bytes_is_read(self):
        self.assert_join(-8, "\n" * 65536, 0, [], [])
        self.assert_join(-2, "\n" * 65537, 0, [], [])

    def test_moneys_are_right_for_the_pool_that_is_named(self):
        for pool, count in enumerate(COUNTS):
            self.assert_join(-3, DAY, pool, [count, 1], [])
            self.assert_join(-3, DAY, pool, [], [count, 1])
            self.assertEqual([0, count - 1, 3], join(pool, CARD, [count - 1, 1], [count - 1, 2]))


if __name__ == "__main__":
    unittest.main()
