"""What holds over the calls together, for many drawn cards, bets and moneys."""

import random
import unittest

from poolday.pools import back, join, put
from tests import reference
from tests.samples import SAMPLES, bet_of, codes, forms_of
from tests.test_reference import some_bet, some_card, some_money

CASES = 1500


class Promises(unittest.TestCase):
    def setUp(self):
        self.rng = random.Random(48)

    def some_bet_and_money(self):
        """A card, a bet of it and money that is right for the bet's pool, with the bet as the reference reads it."""
        while True:
            card = codes(some_card(self.rng))
            told = reference.pools_of(card)
            bet = codes(some_bet(self.rng, told))
            right = reference.bet_of(told, bet)
            if right is not None:
                count = len(right[0].rows)
                money = some_money(self.rng, count, 40)
                if reference.is_right(money, count):
                    return card, bet, money, right

    def test_d2_taken_back_what_was_put_in(self):
        for case in range(CASES):
            card, bet, money, right = self.some_bet_and_money()
            answer = put(card, bet, money)
            if answer[0] == 0:
                self.assertEqual([0] + money, back(card, bet, answer[1:]))
            answer = back(card, bet, money)
            if answer[0] == 0:
                self.assertEqual([0] + money, put(card, bet, answer[1:]))

    def test_d2_for_every_form(self):
        for sample in SAMPLES:
            for form in forms_of(sample):
                bet = bet_of(sample.name, 15, form)
                for money in ([], [0, 3], [0, 15, 1, 15, 2, 15]):
                    answer = put(sample.card, bet, money)
                    self.assertEqual([0] + money, back(sample.card, bet, answer[1:]))

    def test_d3_joined_either_way_about(self):
        firsts = {}
        for case in range(CASES):
            card, bet, money, right = self.some_bet_and_money()
            pools = reference.pools_of(card)
            other = some_money(self.rng, len(right[0].rows), 40)
            answer = join(pools.index(right[0]), card, money, other)
            self.assertEqual(answer, join(pools.index(right[0]), card, other, money))
            firsts[answer[0]] = firsts.get(answer[0], 0) + 1
        self.assertGreater(firsts[0], CASES // 2)
        self.assertGreater(firsts[-3], CASES // 50)


if __name__ == "__main__":
    unittest.main()
