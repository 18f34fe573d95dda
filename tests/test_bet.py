"""bet: the cents on all combinations of a bet together."""

import itertools
import unittest

from poolday.pools import bet, on, put
from tests import reference
from tests.samples import (DAY, HIGHEST_CENTS, HIGHEST_POOL, MOST_CENTS, SAMPLES, BetTest, bet_of, card_of, codes,
                           forms_of, money_on, numbers_of, on_of, pool_line, set_of)
from tests.test_put import MORE_SETS, MOST_SETS, SIX_LEGS, TWENTYFOUR


class Money(BetTest):
    def test_every_form_with_every_kind_of_money(self):
        for sample in SAMPLES:
            count = len(reference.combinations(sample.kind, sample.k, sample.legs))
            for form in forms_of(sample):
                own = numbers_of(sample, form)
                others = [number for number in range(count) if number not in own]
                text = bet_of(sample.name, 35, form)
                for money, cents in (([], 0), (money_on(own, 7), 7 * len(own)), (money_on(own[::2], 7), 7 * len(own[::2])),
                                     (money_on(own[:1], 34), 34), (money_on(own[-1:], 36), 36),
                                     (money_on(others, 7), 0), (money_on(range(count), 7), 7 * len(own)),
                                     ([own[0], MOST_CENTS], MOST_CENTS)):
                    self.assert_answer([0, cents], bet(sample.card, text, money))

    def test_against_on(self):
        for sample in SAMPLES:
            count = len(reference.combinations(sample.kind, sample.k, sample.legs))
            money = [part for number in range(0, count, 3) for part in (number, number * number + 1)]
            cents = [on(sample.at, number, sample.card, money)[1] for number in range(count)]
            for form in forms_of(sample):
                together = sum(cents[number] for number in numbers_of(sample, form))
                self.assertEqual([0, together], bet(sample.card, bet_of(sample.name, 5, form), money))

    def test_the_stake_does_not_matter(self):
        for stake in (100, 200, 1000000):
            self.assert_answer([0, 14], bet(codes(DAY), bet_of("win", stake, "on 1,3,5"), [0, 5, 1, 7, 3, 9]))

    def test_money_before_between_and_behind_the_bets(self):
        # Numbers of the exacta: 2 / 1 is 3 and 2 / 5 is 5.
        text = bet_of("exacta", 100, "on 2 / 1,5")
        for money, cents in (([0, 1, 2, 1, 4, 1, 6, 1, 11, 1], 0), ([3, 9], 9), ([5, 9], 9), ([3, 9, 5, 1], 10),
                             ([2, 4, 3, 8, 4, 16, 5, 32, 6, 64], 40)):
            self.assert_answer([0, cents], bet(codes(DAY), text, money))

    def test_what_a_bet_put_in_adds(self):
        for sample in SAMPLES:
            for form in forms_of(sample):
                text = bet_of(sample.name, 15, form)
                money = [0, 3, 1, 4, 2, 5]
                before = bet(sample.card, text, money)[1]
                after = put(sample.card, text, money)[1:]
                self.assertEqual([0, before + 15 * len(numbers_of(sample, form))], bet(sample.card, text, after))


class Many(BetTest):
    """Bets with very many combinations, which only legs can have."""

    def test_whole_pools_of_a_race(self):
        card = codes(card_of(["24"], [pool_line("o", "order 4"), pool_line("a", "any 3"), pool_line("w", "place 4")]))
        for name, form, count in (("o", f"box {set_of(TWENTYFOUR)}", 255024), ("o", on_of([TWENTYFOUR] * 4), 255024),
                                  ("a", f"box {set_of(TWENTYFOUR)}", 2024), ("w", f"on {set_of(TWENTYFOUR)}", 24)):
            money = [0, 3, 1, 4, count - 1, 5]
            self.assert_answer([0, 12], bet(card, bet_of(name, 100, form), money))

    def test_262144_combinations_and_more(self):
        for form in (MOST_SETS, MORE_SETS, on_of([TWENTYFOUR] * 6)):
            self.assert_answer([0, 0], bet(SIX_LEGS, bet_of("p", 1, form), []))
            self.assert_answer([0, 5], bet(SIX_LEGS, bet_of("p", 1, form), [0, 5]))
        self.assert_answer([0, 5], bet(SIX_LEGS, bet_of("p", 1, on_of([TWENTYFOUR] * 6)), [24 ** 6 - 1, 5]))
        self.assert_answer([0, 0], bet(SIX_LEGS, bet_of("p", 1, MOST_SETS), [24 ** 6 - 1, 5]))
        self.assert_answer([0, 0], bet(SIX_LEGS, bet_of("p", 1, MORE_SETS), [24 ** 6 - 1, 5]))
        # Of the numbers 0 to 47, those sets have 0 to 7 and 24 to 31.
        self.assert_answer([0, 16], bet(SIX_LEGS, bet_of("p", 1, MOST_SETS), money_on(range(48), 1)))

    def test_up_to_what_stake_times_combinations_allows(self):
        whole = on_of([TWENTYFOUR] * 6)
        self.assertLess(11 * 24 ** 6, 2 ** 31)
        self.assertGreater(12 * 24 ** 6, 2 ** 31)
        self.assert_answer([0, 7], bet(SIX_LEGS, bet_of("p", 11, whole), [5, 7]))
        self.assert_answer([-6], bet(SIX_LEGS, bet_of("p", 12, whole), [5, 7]))

    def test_each_leg_counts(self):
        # Every set but one is whole; that one lacks place 5, which is runner 6, or has it alone.
        without = [runner for runner in TWENTYFOUR if runner != 6]
        rows = [(0, 0, 0, 0, 0, 0), (5, 5, 5, 5, 5, 5), (23, 23, 23, 23, 23, 23), (5, 4, 3, 2, 1, 0)]
        rows += [tuple(5 if at == leg else 7 for at in range(6)) for leg in range(6)]
        for leg in range(6):
            for chosen in (without, [6, 7, 8], [6], [1, 24]):
                sets = [TWENTYFOUR] * 6
                sets[leg] = chosen
                cents = {}
                together = 0
                for at, row in enumerate(rows):
                    number = sum(place * 24 ** (5 - where) for where, place in enumerate(row))
                    cents[number] = 2 ** at
                    together += 2 ** at if row[leg] + 1 in chosen else 0
                money = [part for number in sorted(cents) for part in (number, cents[number])]
                self.assert_answer([0, together], bet(SIX_LEGS, bet_of("p", 1, on_of(sets)), money))

    def test_legs_of_different_length_with_couples(self):
        races = [("24 couple 1 2", 23), ("23", 23), ("22 couple 3 5", 21), ("24", 24), ("2", 2), ("3 couple 1 3", 2)]
        interests = [reference.interests(f"race {words}") for words, count in races]
        self.assertEqual([count for words, count in races], [len(leg) for leg in interests])
        card = codes(card_of([words for words, count in races], [pool_line("p", "legs 6", unit=1)]))
        sets = [leg[1:] if len(leg) > 2 else leg for leg in interests]
        self.assertGreater(len(sets[0]) * len(sets[1]) * len(sets[2]) * len(sets[3]) * 4, 262144)
        text = bet_of("p", 1, on_of(sets))
        money, together = [], 0
        for number, row in enumerate(itertools.product(*interests)):
            if number % 211 == 0 and number // 211 < 4000:
                money += [number, number + 1]
                together += number + 1 if all(runner in leg for runner, leg in zip(row, sets)) else 0
        self.assertGreater(together, 0)
        self.assertLess(together, sum(money[1::2]))
        self.assert_answer([0, together], bet(card, text, money))

    def test_cents_that_are_numbers_of_the_bet_too(self):
        money = [0, 1, 1, 2, 2, 30, 30, 30, 31, 2]
        for form in (MOST_SETS, MORE_SETS, on_of([TWENTYFOUR] * 6)):
            self.assert_answer([0, 65], bet(SIX_LEGS, bet_of("p", 1, form), money))

    def test_as_many_pairs_as_may_be_handed_in(self):
        money = money_on(range(0, 8000 * 23000, 23000), 3)
        self.assertEqual(16000, len(money))
        self.assert_answer([0, 24000], bet(SIX_LEGS, bet_of("p", 1, on_of([TWENTYFOUR] * 6)), money))


class Refusals(BetTest):
    """The order of the refusals is asked of put, back and bet at once, with put."""

    def test_wrong_money(self):
        text = codes("bet win for 100 on 1\n")
        for money in ([0, 0], [1, 5, 0, 5], [1, 5, 1, 5], [4, 500], [0, MOST_CENTS + 1], [0, HIGHEST_CENTS],
                      [HIGHEST_POOL, 1], [0, 500, 1, 0]):
            self.assert_answer([-3], bet(codes(DAY), text, money))
        self.assert_answer([-3], bet(SIX_LEGS, bet_of("p", 1, MORE_SETS), [0, 0]))
        self.assert_answer([-3], bet(SIX_LEGS, bet_of("p", 1, MORE_SETS), [24 ** 6, 1]))

    def test_no_bet_no_card_and_too_long(self):
        self.assert_answer([-6], bet(codes(DAY), codes("bet win for 100 on 4\n"), [0, 0]))
        self.assert_answer([-8], bet(codes(DAY + "\n"), codes(""), [0, 0]))
        self.assert_answer([-2], bet(codes(DAY + "\n"), [10] * 4097, [0, 0]))


if __name__ == "__main__":
    unittest.main()
