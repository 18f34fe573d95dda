"""When money is right: the edges of numbers, cents, sums and pairs."""

import math
import unittest

from tests.samples import (DAY, HIGHEST_CENTS, HIGHEST_POOL, MOST_CENTS, CallTest, card_of,
                           pool_line)


class Numbers(CallTest):
    def assert_count(self, count, races, kind, race=1):
        """A pool of this kind has just so many combinations."""
        text = card_of(races, [pool_line("p", kind, race)])
        self.assert_right(text, [count - 1, 1])
        self.assert_right(text, [0, 2, count - 1, 1] if count > 1 else [0, 2])
        self.assert_refused(-3, text, [count, 1])
        self.assert_refused(-3, text, [0, 2, count, 1])
        self.assert_refused(-3, text, [HIGHEST_POOL, 1])

    def test_place_counts_interests_whatever_k(self):
        for k in range(1, 5):
            self.assert_count(24, ["24"], f"place {k}")
            self.assert_count(4, ["4"], f"place {k}")
            self.assert_count(4, ["6 couple 1 2 couple 3 4"], f"place {k}")
        self.assert_count(1, ["2 couple 1 2"], "place 1")

    def test_order_counts_rows_of_different_interests(self):
        for k in range(2, 5):
            for runners in (4, 5, 11, 24):
                self.assert_count(math.perm(runners, k), [str(runners)], f"order {k}")
            self.assert_count(math.perm(5, k), ["7 couple 1 7 couple 1 3"], f"order {k}")
        self.assert_count(2, ["2"], "order 2")

    def test_any_counts_sets_of_interests(self):
        for k in range(2, 4):
            for runners in (3, 4, 5, 11, 24):
                self.assert_count(math.comb(runners, k), [str(runners)], f"any {k}")
            self.assert_count(math.comb(5, k), ["7 couple 1 7 couple 1 3"], f"any {k}")
        self.assert_count(1, ["2"], "any 2")

    def test_legs_count_the_interests_of_each_race(self):
        races = ["2", "3", "5 couple 1 2", "7", "11", "13", "17"]
        interests = [2, 3, 4, 7, 11, 13, 17]
        for k in range(2, 7):
            for race in range(1, 9 - k):
                count = math.prod(interests[race - 1:race - 1 + k])
                self.assert_count(count, races, f"legs {k}", race)
        self.assert_count(24 ** 6, ["24"] * 6, "legs 6")
        self.assert_count(24 ** 6, ["2"] * 10 + ["24"] * 6, "legs 6", 11)
        self.assert_count(1, ["2 couple 1 2"] * 2, "legs 2")

    def test_a_pool_takes_the_race_that_it_names(self):
        races = ["4", "9 couple 1 2", "5"]
        for race, interests in ((1, 4), (2, 8), (3, 5)):
            self.assert_count(interests, races, "place 2", race)
            self.assert_count(interests * (interests - 1), races, "order 2", race)
            self.assert_count(interests * (interests - 1) // 2, races, "any 2", race)

    def test_numbers_rise(self):
        self.assert_right(DAY, [0, 1, 1, 1, 2, 1, 3, 1])
        self.assert_right(DAY, [2, 1, 3, 1])
        self.assert_refused(-3, DAY, [0, 1, 0, 1])
        self.assert_refused(-3, DAY, [3, 1, 3, 1])
        self.assert_refused(-3, DAY, [1, 1, 0, 1])
        self.assert_refused(-3, DAY, [0, 1, 2, 1, 1, 1])
        self.assert_refused(-3, DAY, [0, 1, 1, 1, 3, 1, 2, 1])


class Cents(CallTest):
    def test_each_pair_has_more_than_0_cents(self):
        self.assert_right(DAY, [0, 1])
        self.assert_refused(-3, DAY, [0, 0])
        self.assert_refused(-3, DAY, [0, 0, 1, 5])
        self.assert_refused(-3, DAY, [0, 5, 1, 0])
        self.assert_refused(-3, DAY, [0, 5, 1, 0, 2, 5])

    def test_all_cents_together_are_at_most_2_to_the_48th_less_1(self):
        self.assert_right(DAY, [0, MOST_CENTS])
        self.assert_refused(-3, DAY, [0, MOST_CENTS + 1])
        self.assert_right(DAY, [0, MOST_CENTS - 1, 3, 1])
        self.assert_refused(-3, DAY, [0, MOST_CENTS, 3, 1])
        self.assert_refused(-3, DAY, [0, 1, 3, MOST_CENTS])
        half = 2 ** 47
        self.assert_right(DAY, [1, half, 2, half - 1])
        self.assert_refused(-3, DAY, [1, half, 2, half])

    def test_very_many_cents(self):
        self.assert_refused(-3, DAY, [0, HIGHEST_CENTS])
        # Together they would be 1 if sums were cut off at 2 to the 64th.
        self.assert_refused(-3, DAY, [0, HIGHEST_CENTS, 1, 2])
        self.assert_refused(-3, DAY, [0, 2 ** 63, 1, 2 ** 63, 2, 1])

    def test_the_sum_is_taken_of_all_pairs(self):
        text = card_of(["24"], [pool_line("four", "order 4")])
        each = MOST_CENTS // 8000
        money = []
        for number in range(8000):
            money += [number, each]
        rest = MOST_CENTS - 8000 * each
        self.assert_right(text, money[:-1] + [each + rest])
        self.assert_refused(-3, text, money[:-1] + [each + rest + 1])

    def test_at_most_262144_pairs(self):
        text = card_of(["24"] * 6, [pool_line("six", "legs 6")])
        money = []
        for number in range(262144):
            money += [number, 1]
        self.assert_right(text, money)
        self.assert_refused(-3, text, money + [262144, 1])


if __name__ == "__main__":
    unittest.main()
