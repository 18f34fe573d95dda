"""What holds over the calls together, for many drawn cards, bets and moneys."""

import random
import unittest

from poolday.pools import back, join, put
from tests import reference
from tests.samples import SAMPLES, bet_of, codes, forms_of
from tests.test_reference import some_bet, some_card, some_money

CASES = 1500


class Promises(unittest.TestCase):
    def setUp(self):
        self.rng = random.Random(48)

    def some_bet_and_money(self):
        """A card, a bet of it and money that is right for the bet's pool, with the bet as the reference reads it."""
        while True:
            card = codes(some_card(self.rng))
            told = reference.pools_of(card)
            bet = codes(some_bet(self.rng, told))
            right = reference.bet_of(told, bet)
            if right is not None:
                count = len(right[0].rows)
                money = some_money(self.rng, count, 40)
                if reference.is_right(money, count):
                    return card, bet, money, right

    def some_bets(self):
        """A card and bets of it that are all on one pool."""
        card, text, money, right = self.some_bet_and_money()
        told = [right[0]]
        bets = [text]
        while len(bets) < 5:
            text = codes(some_bet(self.rng, told))
            if reference.bet_of(told, text) is not None:
                bets.append(text)
        return card, bets

    def run_steps(self, card, steps, money):
        """The money behind all steps; None if one of them is refused."""
        for call, text in steps:
            answer = call(card, text, money)
            if answer[0] != 0:
                return None
            money = answer[1:]
        return money

    def sum_of(self, card, steps):
        """The sum of the bets put in less those taken back, as the reference lists them."""
        told = reference.pools_of(card)
        cents = {}
        for call, text in steps:
            pool, stake, numbers = reference.bet_of(told, text)
            for number in numbers:
                cents[number] = cents.get(number, 0) + (stake if call == put else -stake)
        return [part for number in sorted(cents) if cents[number] for part in (number, cents[number])]

    def test_d1_bets_put_in_and_taken_back_in_several_orders(self):
        answered = refused = 0
        for case in range(CASES // 5):
            card, bets = self.some_bets()
            steps = [(put, text) for text in bets + bets[:1]]
            steps += [(back, text) for text in self.rng.sample(bets, 3)]
            expected = self.sum_of(card, steps)
            for order in range(6):
                money = self.run_steps(card, steps, [])
                if money is None:
                    refused += 1
                else:
                    answered += 1
                    self.assertEqual(expected, money)
                self.rng.shuffle(steps)
        self.assertGreater(answered, CASES // 5)
        self.assertGreater(refused, CASES // 50)

    def test_d1_for_every_form(self):
        for sample in SAMPLES:
            bets = [bet_of(sample.name, 5 * (at + 1), form) for at, form in enumerate(forms_of(sample))]
            steps = [(put, text) for text in bets]
            money = self.run_steps(sample.card, steps, [])
            self.assertEqual(self.sum_of(sample.card, steps), money)
            self.assertEqual(money, self.run_steps(sample.card, steps[::-1], []))
            rest = [(back, text) for text in bets[::2]]
            left = self.run_steps(sample.card, rest, money)
            self.assertEqual(self.sum_of(sample.card, steps + rest), left)
            self.assertEqual(left, self.run_steps(sample.card, rest[::-1], money))
            self.assertEqual(left, self.run_steps(sample.card, steps[1::2], []))

    def test_d1_money_of_houses_joined_is_that_of_one_house(self):
        for case in range(CASES // 5):
            card, bets = self.some_bets()
            pools = reference.pools_of(card)
            at = pools.index(reference.bet_of(pools, bets[0])[0])
            whole = self.run_steps(card, [(put, text) for text in bets], [])
            here = self.run_steps(card, [(put, text) for text in bets[:2]], [])
            there = self.run_steps(card, [(put, text) for text in bets[2:]], [])
            self.assertEqual([0] + whole, join(at, card, here, there))

    def test_d2_taken_back_what_was_put_in(self):
        for case in range(CASES):
            card, bet, money, right = self.some_bet_and_money()
            answer = put(card, bet, money)
            if answer[0] == 0:
                self.assertEqual([0] + money, back(card, bet, answer[1:]))
            answer = back(card, bet, money)
            if answer[0] == 0:
                self.assertEqual([0] + money, put(card, bet, answer[1:]))

    def test_d2_for_every_form(self):
        for sample in SAMPLES:
            for form in forms_of(sample):
                bet = bet_of(sample.name, 15, form)
                for money in ([], [0, 3], [0, 15, 1, 15, 2, 15]):
                    answer = put(sample.card, bet, money)
                    self.assertEqual([0] + money, back(sample.card, bet, answer[1:]))

    def test_d3_joined_either_way_about(self):
        firsts = {}
        for case in range(CASES):
            card, bet, money, right = self.some_bet_and_money()
            pools = reference.pools_of(card)
            other = some_money(self.rng, len(right[0].rows), 40)
            answer = join(pools.index(right[0]), card, money, other)
            self.assertEqual(answer, join(pools.index(right[0]), card, other, money))
            firsts[answer[0]] = firsts.get(answer[0], 0) + 1
        self.assertGreater(firsts[0], CASES // 2)
        self.assertGreater(firsts[-3], CASES // 50)


if __name__ == "__main__":
    unittest.main()
