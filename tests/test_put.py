"""put: the money of a pool with a bet put in."""

import math
import unittest

from poolday.pools import judge, put
from tests import reference
from tests.samples import (DAY, HIGHEST_CENTS, HIGHEST_POOL, MOST_CENTS, SAMPLES, BetTest, bet_of, card_of, codes,
                           forms_of, money_on, numbers_of, on_of, pool_line, set_of)

TWENTYFOUR = range(1, 25)
SIX_LEGS = codes(card_of(["24"] * 6, [pool_line("p", "legs 6", unit=1)]))
# 262,144 combinations of six legs, and the next larger count that six legs can have.
MOST_SETS = on_of([range(1, 9)] * 6)
MORE_SETS = on_of([range(1, width + 1) for width in (1, 2, 15, 19, 20, 23)])


class Numbers(BetTest):
    def test_each_combinations_number_by_a_plain_count(self):
        for sample in SAMPLES:
            rows = reference.combinations(sample.kind, sample.k, sample.legs)
            self.assertEqual(rows, sorted(rows))
            for number, row in enumerate(rows):
                bet = bet_of(sample.name, 15, on_of([runner] for runner in row))
                self.assertEqual([0, number, 15], put(sample.card, bet, []), (sample, row))

    def test_the_document_in_small(self):
        # Interests are 1 2 3 5 in the first race, 1 2 3 in the second.
        for name, form, numbers in (
                ("win", "on 1,5", [0, 3]), ("win", "on 2", [1]),
                ("exacta", "on 1 / 2", [0]), ("exacta", "on 5 / 3", [11]), ("exacta", "on 2 / 1,3", [3, 4]),
                ("exacta", "on 1,2 / 1,2", [0, 3]), ("exacta", "box 1,2,3", [0, 1, 3, 4, 6, 7]),
                ("exacta", "key 5 with 1,2", [2, 5, 9, 10]),
                ("quinella", "on 1 / 2", [0]), ("quinella", "on 2 / 1", [0]), ("quinella", "on 1,2 / 1,2", [0]),
                ("quinella", "on 5 / 1,2,3", [2, 4, 5]), ("quinella", "box 2,3,5", [3, 4, 5]),
                ("quinella", "key 2 with 1,5", [0, 4]),
                ("double", "on 1 / 1", [0]), ("double", "on 2 / 1,3", [3, 5]), ("double", "on 1,5 / 3", [2, 11])):
            self.assert_answer([0] + money_on(numbers, 200), put(codes(DAY), bet_of(name, 200, form), []))

    def test_any_on_takes_one_from_each_set_for_another(self):
        card = codes(card_of(["5"], [pool_line("p", "any 3")]))
        rows = reference.combinations("any", 3, [[1, 2, 3, 4, 5]])
        for form, wanted in (("on 1 / 1,2 / 1,2,3", [(1, 2, 3)]),
                             ("on 1,2 / 1,2 / 3,4", [(1, 2, 3), (1, 2, 4)]),
                             ("on 1,2 / 3 / 3,4", [(1, 3, 4), (2, 3, 4)]),
                             ("on 5 / 4 / 1,4,5", [(1, 4, 5)]),
                             ("on 3 / 1,2 / 2,3,4", [(1, 2, 3), (1, 3, 4), (2, 3, 4)])):
            numbers = [rows.index(row) for row in wanted]
            self.assert_answer([0] + money_on(numbers, 100), put(card, bet_of("p", 100, form), []))

    def test_the_last_numbers_of_the_largest_pools(self):
        card = codes(card_of(["24"] * 6, [pool_line("o", "order 4"), pool_line("a", "any 3"), pool_line("l", "legs 6"),
                                          pool_line("w", "place 4")]))
        for name, row, count in (("o", [24, 23, 22, 21], math.perm(24, 4)), ("a", [22, 23, 24], math.comb(24, 3)),
                                 ("l", [24] * 6, 24 ** 6), ("w", [24], 24)):
            bet = bet_of(name, 100, on_of([runner] for runner in row))
            self.assert_answer([0, count - 1, 100], put(card, bet, []))

    def test_whole_pools(self):
        card = codes(card_of(["24"] * 4, [pool_line("o", "order 4"), pool_line("a", "any 3"), pool_line("l", "legs 4"),
                                          pool_line("w", "place 4")]))
        whole = set_of(TWENTYFOUR)
        for name, form, count in (("o", f"box {whole}", math.perm(24, 4)), ("a", f"box {whole}", math.comb(24, 3)),
                                  ("a", on_of([TWENTYFOUR] * 3), math.comb(24, 3)), ("w", f"on {whole}", 24),
                                  ("o", on_of([TWENTYFOUR] * 4), math.perm(24, 4))):
            self.assertEqual([0] + money_on(range(count), 100), put(card, bet_of(name, 100, form), []))
        self.assertEqual([-9], put(card, bet_of("l", 100, on_of([TWENTYFOUR] * 4)), []))


class Money(BetTest):
    def assert_put(self, sample, form, stake, money):
        """The answer is money with the stake on each of the bet's numbers, pair by pair and rising."""
        cents = dict(zip(money[0::2], money[1::2]))
        for number in numbers_of(sample, form):
            cents[number] = cents.get(number, 0) + stake
        expected = [part for number in sorted(cents) for part in (number, cents[number])]
        answer = put(sample.card, bet_of(sample.name, stake, form), money)
        self.assert_answer([0] + expected, answer)
        self.assertEqual([0], judge(sample.at, sample.card, answer[1:]))

    def test_every_form_into_every_kind_of_money(self):
        for sample in SAMPLES:
            count = len(reference.combinations(sample.kind, sample.k, sample.legs))
            for form in forms_of(sample):
                own = numbers_of(sample, form)
                others = [number for number in range(count) if number not in own]
                for money in ([], money_on(own, 7), money_on(own[::2], 7), money_on(own[1::2], 7), money_on(others, 7),
                              money_on(others[::2], 7), money_on(range(count), 7), money_on([0], 1),
                              money_on([count - 1], 1)):
                    self.assert_put(sample, form, 35, money)

    def test_a_bet_put_in_twice(self):
        for sample in SAMPLES:
            for form in forms_of(sample):
                bet = bet_of(sample.name, 10, form)
                own = numbers_of(sample, form)
                once = put(sample.card, bet, [])
                self.assertEqual([0] + money_on(own, 10), once)
                self.assertEqual([0] + money_on(own, 20), put(sample.card, bet, once[1:]))

    def test_numbers_before_between_and_behind_the_bets(self):
        # Numbers of the exacta: 2 / 1 is 3 and 2 / 5 is 5.
        bet = bet_of("exacta", 100, "on 2 / 1,5")
        for money, after in (([0, 1], [0, 1, 3, 100, 5, 100]), ([4, 1], [3, 100, 4, 1, 5, 100]),
                             ([11, 1], [3, 100, 5, 100, 11, 1]), ([2, 8, 3, 9, 6, 1], [2, 8, 3, 109, 5, 100, 6, 1]),
                             ([3, 1, 4, 1, 5, 1], [3, 101, 4, 1, 5, 101])):
            self.assert_answer([0] + after, put(codes(DAY), bet, money))

    def test_as_many_pairs_as_may_be_handed_in(self):
        card = codes(card_of(["24"], [pool_line("p", "order 4", unit=1)]))
        money = [part for number in range(8000) for part in (number * 31, number + 1)]
        answer = put(card, bet_of("p", 2, on_of([[1], [2], [3], [4, 5]])), money)
        self.assertEqual([0, 0, 3, 1, 2, 31, 2], answer[:7])
        self.assertEqual(money[2:], answer[5:])


class Limits(BetTest):
    def test_all_cents_together(self):
        card = codes(self.CARD)
        for name, form, count in (("win", "on 1", 1), ("order2", "on 1 / 2,3", 2), ("any2", "box 1,2,3", 3),
                                  ("any3", "key 1 with 2,3,5", 3), ("legs2", "on 1,2 / 1,2", 4)):
            bet = bet_of(name, 1000, form)
            rest = MOST_CENTS - 1000 * count
            for number in (0, 1, 3):
                money = [number, rest]
                answer = put(card, bet, money)
                self.assertEqual(0, answer[0])
                self.assertEqual(MOST_CENTS, sum(answer[2::2]))
                self.assert_answer([-9], put(card, bet, [number, rest + 1]))
                self.assert_answer([-9], put(card, bet, [number, MOST_CENTS]))

    def test_the_stake_decides_at_the_edge(self):
        card = codes(self.CARD)
        money = [2, MOST_CENTS - 5]
        self.assert_answer([0, 0, 5, 2, MOST_CENTS - 5], put(card, bet_of("win", 5, "on 1"), money))
        self.assert_answer([0, 2, MOST_CENTS], put(card, bet_of("win", 5, "on 3"), money))
        self.assert_answer([-9], put(card, bet_of("win", 6, "on 1"), money))
        self.assert_answer([-9], put(card, bet_of("win", 6, "on 3"), money))

    def test_262144_combinations(self):
        answer = put(SIX_LEGS, bet_of("p", 1, MOST_SETS), [])
        self.assertEqual(1 + 2 * 262144, len(answer))
        numbers = answer[1::2]
        self.assertEqual(numbers, sorted(set(numbers)))
        self.assertEqual({1}, set(answer[2::2]))
        self.assertEqual(0, numbers[0])
        self.assertEqual(sum(7 * 24 ** leg for leg in range(6)), numbers[-1])
        self.assertEqual(8191 * 262144, sum(put(SIX_LEGS, bet_of("p", 8191, MOST_SETS), [])[2::2]))

    def test_more_than_262144_combinations(self):
        for form in (MORE_SETS, on_of([TWENTYFOUR] * 6)):
            self.assert_answer([-9], put(SIX_LEGS, bet_of("p", 1, form), []))
            self.assert_answer([-9], put(SIX_LEGS, bet_of("p", 1, form), [0, 1]))
        # Stake times combinations is looked at first: that is no bet at all.
        self.assert_answer([-6], put(SIX_LEGS, bet_of("p", 12, on_of([TWENTYFOUR] * 6)), []))

    def test_more_than_262144_pairs(self):
        bet = bet_of("p", 1, MOST_SETS)
        # Of the numbers 0 to 23, which tell the last leg alone, the bet has 0 to 7.
        for money in ([0, 5], [7, 5], [0, 5, 7, 5]):
            answer = put(SIX_LEGS, bet, money)
            self.assertEqual(0, answer[0])
            self.assertEqual(1 + 2 * 262144, len(answer))
        for money in ([8, 5], [7, 5, 8, 5], [24 ** 6 - 1, 5]):
            self.assert_answer([-9], put(SIX_LEGS, bet, money))

    def test_pairs_at_the_limit_by_money_with_many_pairs(self):
        bet = bet_of("p", 1, on_of([range(1, 9)] * 5 + [range(1, 8)]))
        spare = 262144 - 8 ** 5 * 7
        # Numbers whose last leg is place 7 or behind it, which the bet has not.
        others = [number * 24 + place for number in range(spare) for place in (7, 8)][:spare + 1]
        answer = put(SIX_LEGS, bet, money_on(others[:spare], 1))
        self.assertEqual(1 + 2 * 262144, len(answer))
        self.assert_answer([-9], put(SIX_LEGS, bet, money_on(others, 1)))


class Refusals(BetTest):
    BET = "bet win for 100 on 1\n"
    LONG = DAY + "\n" * 65537
    NO_CARD = DAY + "\n"
    NO_BET = "bet win for 100 on 4\n"
    WRONG = [0, 0]

    def test_too_long_comes_first(self):
        for card in (DAY, self.NO_CARD, ""):
            for money in ([], self.WRONG):
                self.assert_bet_refused(-2, card, "x" * 4097, money)
                self.assert_bet_refused(-2, card, self.BET + "\n" * 4097, money)
        for bet in (self.BET, self.NO_BET, "", "x" * 4097):
            for money in ([], self.WRONG):
                self.assert_bet_refused(-2, self.LONG, bet, money)
        self.assert_bet_refused(-8, "\n" * 65536, "x" * 4096)
        self.assert_bet_refused(-2, "\n" * 65537, "x" * 4096)

    def test_no_card_comes_ahead_of_no_bet_and_wrong_money(self):
        for card in (self.NO_CARD, "", "day"):
            for bet in (self.BET, self.NO_BET, ""):
                for money in ([], self.WRONG):
                    self.assert_bet_refused(-8, card, bet, money)

    def test_no_bet_comes_ahead_of_wrong_money(self):
        for bet in (self.NO_BET, "", "bet nobody for 100 on 1\n"):
            for money in ([], self.WRONG):
                self.assert_bet_refused(-6, DAY, bet, money)
        self.assert_bet_refused(-6, card_of(["5"], []), self.BET, self.WRONG)

    def test_wrong_money(self):
        # The pool of the bet has 4 combinations, numbered 0 to 3; other pools have more.
        for money in (self.WRONG, [1, 5, 0, 5], [1, 5, 1, 5], [4, 5], [0, MOST_CENTS + 1], [0, MOST_CENTS, 1, 1],
                      [0, HIGHEST_CENTS], [HIGHEST_POOL, 1], [0, 5, 1, 0]):
            self.assert_bet_refused(-3, DAY, self.BET, money)
        self.assert_bet_refused(-3, DAY, "bet exacta for 100 on 1 / 2\n", [12, 5])
        self.assertEqual(0, put(codes(DAY), codes("bet exacta for 100 on 1 / 2\n"), [11, 5])[0])

    def test_wrong_money_comes_ahead_of_too_many_combinations(self):
        card = card_of(["24"] * 6, [pool_line("p", "legs 6", unit=1)])
        self.assert_bet_refused(-3, card, f"bet p for 1 {MORE_SETS}\n", self.WRONG)


if __name__ == "__main__":
    unittest.main()
