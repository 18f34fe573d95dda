"""on: the cents on one combination."""

import unittest

from poolday.pools import on
from tests.samples import (COUNTS, DAY, HIGHEST_CENTS, HIGHEST_POOL, MOST_CENTS, POOLS, SAMPLES, CallTest,
                           card_of, codes, money_on, pool_line)
from tests.reference import combinations


class On(CallTest):
    def test_the_first_and_the_last_number(self):
        for pool, count in enumerate(COUNTS):
            money = [0, 7, count - 1, 9]
            self.assert_answer([0, 7], on(pool, 0, codes(DAY), money))
            self.assert_answer([0, 9], on(pool, count - 1, codes(DAY), money))
            self.assert_answer([0, 5], on(pool, 0, codes(DAY), [0, 5]))
            self.assert_answer([0, 5], on(pool, count - 1, codes(DAY), [count - 1, 5]))

    def test_what_no_pair_names_has_0_cents(self):
        for pool, count in enumerate(COUNTS):
            for number in (0, 1, 2, count - 1):
                self.assert_answer([0, 0], on(pool, number, codes(DAY), []))
            self.assert_answer([0, 0], on(pool, 0, codes(DAY), [1, 7, 2, 8]))
            self.assert_answer([0, 0], on(pool, 1, codes(DAY), [0, 7, 2, 8]))
            self.assert_answer([0, 0], on(pool, 2, codes(DAY), [0, 7, 1, 8]))
            self.assert_answer([0, 0], on(pool, count - 1, codes(DAY), [0, count - 1, 1, count - 1]))

    def test_the_first_number_that_there_is_not(self):
        for pool, count in enumerate(COUNTS):
            for number in (count, count + 1, 2 ** 31, 2 ** 32 - 2, HIGHEST_POOL):
                self.assert_answer([-1], on(pool, number, codes(DAY), []))
                self.assert_answer([-1], on(pool, number, codes(DAY), [0, 7, count - 1, number]))

    def test_every_number_of_every_kind(self):
        for sample in SAMPLES:
            count = len(combinations(sample.kind, sample.k, sample.legs))
            money = []
            for number in range(0, count, 2):
                money += [number, number + 11]
            for number in range(count):
                cents = 0 if number % 2 else number + 11
                self.assertEqual([0, cents], on(sample.at, number, sample.card, money))
            self.assertEqual([-1], on(sample.at, count, sample.card, money))

    def test_numbers_of_the_largest_pools(self):
        card = codes(card_of(["24"] * 6, [pool_line("p", "legs 6"), pool_line("q", "order 4")]))
        for pool, count in ((0, 24 ** 6), (1, 24 * 23 * 22 * 21)):
            self.assert_answer([0, 0], on(pool, count - 1, card, []))
            self.assert_answer([0, MOST_CENTS], on(pool, count - 1, card, [count - 1, MOST_CENTS]))
            self.assert_answer([-1], on(pool, count, card, []))
            self.assert_answer([-1], on(pool, HIGHEST_POOL, card, []))

    def test_as_many_pairs_as_may_be_handed_in(self):
        card = codes(card_of(["24"], [pool_line("p", "order 4")]))
        money = [part for number in range(8000) for part in (number * 31, number + 1)]
        for at in (0, 1, 4000, 7999):
            self.assertEqual([0, at + 1], on(0, at * 31, card, money))
            self.assertEqual([0, 0], on(0, at * 31 + 1, card, money))


class Refusals(CallTest):
    LONG = DAY + "\n" * 65537
    NO_CARD = DAY + "\n"

    def assert_on(self, refusal, text, pool, number, money):
        self.assert_answer([refusal], on(pool, number, codes(text), money))

    def test_their_order(self):
        wrong = [0, 0]
        for number in (0, HIGHEST_POOL):
            for money in ([], wrong):
                for pool in (0, len(POOLS), HIGHEST_POOL):
                    self.assert_on(-2, self.LONG, pool, number, money)
                    self.assert_on(-8, self.NO_CARD, pool, number, money)
                    self.assert_on(-8, "", pool, number, money)
                for pool in (len(POOLS), HIGHEST_POOL):
                    self.assert_on(-4, DAY, pool, number, money)
            self.assert_on(-3, DAY, 0, number, wrong)
        self.assert_on(-1, DAY, 0, COUNTS[0], [])

    def test_a_card_of_65536_bytes_is_read(self):
        self.assert_on(-8, "\n" * 65536, 0, 0, [])
        self.assert_on(-2, "\n" * 65537, 0, 0, [])

    def test_wrong_money(self):
        for money in ([0, 0], [1, 5, 0, 5], [1, 5, 1, 5], [4, 5], [0, MOST_CENTS, 1, 1], [0, HIGHEST_CENTS],
                      money_on(range(5), 1)):
            for number in range(6):
                self.assert_on(-3, DAY, 0, number, money)


if __name__ == "__main__":
    unittest.main()
