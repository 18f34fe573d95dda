"""back: the money of a pool with a bet taken back."""

import unittest

from poolday.pools import back, judge, put
from tests import reference
from tests.samples import (DAY, HIGHEST_CENTS, HIGHEST_POOL, MOST_CENTS, SAMPLES, BetTest, bet_of, card_of, codes,
                           forms_of, money_on, numbers_of, on_of, pool_line)
from tests.test_put import MORE_SETS, MOST_SETS, SIX_LEGS, TWENTYFOUR


def pairs_of(cents):
    return [part for number in sorted(cents) for part in (number, cents[number])]


class Money(BetTest):
    def assert_back(self, sample, form, stake, cents):
        """The answer is the money less the stake on each of the bet's numbers, what is left with 0 being no pair."""
        after = dict(cents)
        for number in numbers_of(sample, form):
            after[number] -= stake
        expected = [part for number in sorted(after) if after[number] for part in (number, after[number])]
        answer = back(sample.card, bet_of(sample.name, stake, form), pairs_of(cents))
        self.assert_answer([0] + expected, answer)
        self.assertEqual([0], judge(sample.at, sample.card, answer[1:]))

    def test_every_form_from_every_kind_of_money(self):
        for sample in SAMPLES:
            count = len(reference.combinations(sample.kind, sample.k, sample.legs))
            for form in forms_of(sample):
                own = numbers_of(sample, form)
                just = dict.fromkeys(own, 35)
                more = {number: 36 + number for number in own}
                some = {number: 35 + number % 2 for number in own}
                others = {number: 7 for number in range(count) if number not in own}
                for cents in (just, more, some):
                    self.assert_back(sample, form, 35, cents)
                    self.assert_back(sample, form, 35, cents | others)
                    self.assert_back(sample, form, 35, cents | dict(list(others.items())[::2]))

    def test_a_cent_too_few_on_one_combination(self):
        for sample in SAMPLES:
            for form in forms_of(sample):
                own = numbers_of(sample, form)
                bet = bet_of(sample.name, 35, form)
                for short in {own[0], own[-1], own[len(own) // 2]}:
                    cents = dict.fromkeys(own, 80)
                    cents[short] = 35
                    self.assertEqual(0, back(sample.card, bet, pairs_of(cents))[0])
                    for left in (34, 1):
                        cents[short] = left
                        self.assert_answer([-5], back(sample.card, bet, pairs_of(cents)))
                    del cents[short]
                    self.assert_answer([-5], back(sample.card, bet, pairs_of(cents)))

    def test_none_on_any_combination(self):
        for sample in SAMPLES:
            count = len(reference.combinations(sample.kind, sample.k, sample.legs))
            for form in forms_of(sample):
                own = numbers_of(sample, form)
                others = [number for number in range(count) if number not in own]
                bet = bet_of(sample.name, 35, form)
                self.assert_answer([-5], back(sample.card, bet, []))
                self.assert_answer([-5], back(sample.card, bet, money_on(others, 1000)))

    def test_numbers_before_between_and_behind_the_bets(self):
        # Numbers of the exacta: 2 / 1 is 3 and 2 / 5 is 5.
        bet = bet_of("exacta", 100, "on 2 / 1,5")
        for money, after in (([3, 100, 5, 100], []), ([0, 1, 3, 100, 5, 100], [0, 1]),
                             ([3, 100, 4, 1, 5, 100], [4, 1]), ([3, 100, 5, 100, 11, 1], [11, 1]),
                             ([2, 8, 3, 109, 5, 100, 6, 1], [2, 8, 3, 9, 6, 1]),
                             ([3, 101, 4, 100, 5, MOST_CENTS - 201], [3, 1, 4, 100, 5, MOST_CENTS - 301])):
            self.assert_answer([0] + after, back(codes(DAY), bet, money))
        for money in ([3, 99, 5, 100], [3, 100, 5, 99], [3, 100], [5, 100], [3, 100, 4, 100, 6, 100], [4, 200]):
            self.assert_answer([-5], back(codes(DAY), bet, money))


class Many(BetTest):
    def test_262144_combinations(self):
        bet = bet_of("p", 3, MOST_SETS)
        money = put(SIX_LEGS, bet, [])[1:]
        self.assertEqual(2 * 262144, len(money))
        self.assert_answer([0], back(SIX_LEGS, bet, money))
        more = list(money)
        more[-1] += 1
        self.assert_answer([0] + [more[-2], 1], back(SIX_LEGS, bet, more))
        fewer = list(money)
        fewer[-1] -= 1
        self.assert_answer([-5], back(SIX_LEGS, bet, fewer))
        self.assert_answer([-5], back(SIX_LEGS, bet, money[:-2]))

    def test_more_than_262144_combinations(self):
        for form in (MORE_SETS, on_of([TWENTYFOUR] * 6)):
            self.assert_answer([-5], back(SIX_LEGS, bet_of("p", 1, form), []))
            self.assert_answer([-5], back(SIX_LEGS, bet_of("p", 1, form), money_on(range(8000), 1)))
        self.assert_answer([-6], back(SIX_LEGS, bet_of("p", 12, on_of([TWENTYFOUR] * 6)), []))

    def test_a_whole_pool(self):
        card = codes(card_of(["24"], [pool_line("p", "any 3", unit=1)]))
        bet = bet_of("p", 1000000, on_of([TWENTYFOUR] * 3))
        self.assert_answer([0], back(card, bet, money_on(range(2024), 1000000)))
        self.assertEqual([0] + money_on(range(2024), 1), back(card, bet, money_on(range(2024), 1000001)))
        self.assert_answer([-5], back(card, bet, money_on(range(2023), 1000001)))


class Refusals(BetTest):
    """The order of the refusals that come ahead of -5 is asked of put and back at once, with put."""

    BET = codes("bet win for 100 on 1\n")

    def test_wrong_money_comes_ahead_of_too_little(self):
        for money in ([0, 0], [1, 5, 0, 5], [1, 5, 1, 5], [4, 500], [0, MOST_CENTS + 1], [0, HIGHEST_CENTS],
                      [HIGHEST_POOL, 1], [0, 500, 1, 0]):
            self.assert_answer([-3], back(codes(DAY), self.BET, money))
        self.assert_answer([-5], back(codes(DAY), self.BET, [1, 500]))
        self.assert_answer([-3], back(SIX_LEGS, bet_of("p", 1, MORE_SETS), [0, 0]))

    def test_no_bet_comes_ahead_of_too_little(self):
        self.assert_answer([-6], back(codes(DAY), codes("bet win for 100 on 4\n"), []))
        self.assert_answer([-8], back(codes(DAY + "\n"), self.BET, []))
        self.assert_answer([-2], back(codes(DAY), self.BET + [10] * 4096, []))


if __name__ == "__main__":
    unittest.main()
