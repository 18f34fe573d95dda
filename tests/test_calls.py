"""judge and total: ordinary inputs, the refusals and their order."""

import copy
import subprocess
import sys
import unittest

from poolday.pools import judge, total
from tests.samples import (COUNTS, DAY, HIGHEST_CENTS, HIGHEST_POOL, MOST_CENTS, POOLS, RACES,
                           CallTest, card_of, codes, pool_line)


class Ordinary(CallTest):
    def test_no_money_is_right_for_every_pool(self):
        for pool in range(len(POOLS)):
            self.assert_right(DAY, [], pool)

    def test_one_pair(self):
        for pool in range(len(POOLS)):
            self.assert_right(DAY, [1, 700], pool)

    def test_money_on_every_combination(self):
        for pool, count in enumerate(COUNTS):
            money = []
            for number in range(count):
                money += [number, number * 7 + 1]
            self.assert_right(DAY, money, pool)

    def test_total_adds_the_cents_and_not_the_numbers(self):
        self.assertEqual([0, 0], total(0, codes(DAY), []))
        self.assertEqual([0, 5], total(0, codes(DAY), [3, 5]))
        self.assertEqual([0, 1806], total(5, codes(DAY), [0, 1, 7, 5, 2000, 1800]))

    def test_pools_are_numbered_from_0_in_the_order_of_the_card(self):
        for pool, count in enumerate(COUNTS):
            self.assert_right(DAY, [count - 1, 1], pool)
            self.assert_refused(-3, DAY, [count, 1], pool)

    def test_as_many_pairs_as_may_be_handed_in(self):
        text = card_of(["24"], [pool_line("four", "order 4")])
        money = []
        for number in range(8000):
            money += [number * 31, 3]
        self.assert_right(text, money)


class Refusals(CallTest):
    def test_card_of_65536_bytes_is_read_and_a_longer_one_is_not(self):
        self.assert_refused(-8, DAY + "x" * (65536 - len(DAY)))
        self.assert_refused(-2, DAY + "x" * (65537 - len(DAY)))
        self.assert_refused(-8, "\n" * 65536)
        self.assert_refused(-2, "\n" * 65537)
        self.assert_refused(-2, "\n" * 66000)

    def test_no_card(self):
        self.assert_refused(-8, "")
        self.assert_refused(-8, "day")

    def test_no_such_pool(self):
        self.assert_right(DAY, [], len(POOLS) - 1)
        self.assert_refused(-4, DAY, [], len(POOLS))
        self.assert_refused(-4, DAY, [], HIGHEST_POOL)
        self.assert_refused(-4, card_of(RACES, []), [], 0)

    def test_wrong_money(self):
        self.assert_refused(-3, DAY, [0, 0])

    def test_a_card_too_long_comes_ahead_of_all(self):
        wrong = [0, 0]
        self.assert_refused(-2, DAY + "\n" * 65537, wrong, HIGHEST_POOL)
        self.assert_refused(-2, DAY + "\n" * 65537, [], 0)

    def test_no_card_comes_ahead_of_no_such_pool_and_wrong_money(self):
        self.assert_refused(-8, DAY + "\n", [0, 0], HIGHEST_POOL)
        self.assert_refused(-8, DAY + "\n", [0, 0], 0)
        self.assert_refused(-8, DAY + "\n", [], HIGHEST_POOL)

    def test_no_such_pool_comes_ahead_of_wrong_money(self):
        self.assert_refused(-4, DAY, [0, 0], len(POOLS))
        self.assert_refused(-4, DAY, [HIGHEST_POOL, HIGHEST_CENTS], HIGHEST_POOL)


class Untouched(unittest.TestCase):
    """What is handed in stays as it was, and a second call answers the same."""

    CASES = [
        (0, DAY, [0, 5, 3, 9]),
        (5, DAY, [0, 5, 2023, MOST_CENTS - 5]),
        (7, DAY, []),
        (0, DAY, [3, 9, 0, 5]),
        (99, DAY, [0, 5]),
        (0, DAY + "race 2\n", [0, 5]),
        (0, "x" * 66000, [0, 5]),
    ]

    def test_nothing_is_changed(self):
        for call in (judge, total):
            for pool, text, money in self.CASES:
                card = codes(text)
                given = copy.deepcopy([card, money])
                call(pool, card, money)
                self.assertEqual(given, [card, money])

    def test_nothing_is_changed_for_a_while_either(self):
        class Fixed(list):
            def refuse(self, *words, **more):
                raise AssertionError("what was handed in is being changed")

            append = clear = extend = insert = pop = remove = reverse = sort = refuse
            __setitem__ = __delitem__ = __iadd__ = __imul__ = refuse

        for call in (judge, total):
            for pool, text, money in self.CASES:
                call(pool, Fixed(codes(text)), Fixed(money))

    def test_nothing_is_kept(self):
        for call in (judge, total):
            first = [call(pool, codes(text), list(money)) for pool, text, money in self.CASES]
            for pool, text, money in reversed(self.CASES):
                call(pool, codes(text), list(money))
            second = [call(pool, codes(text), list(money)) for pool, text, money in self.CASES]
            self.assertEqual(first, second)

    def test_an_answer_that_is_changed_leaves_later_answers_alone(self):
        for call in (judge, total):
            for pool, text, money in self.CASES:
                answer = call(pool, codes(text), money)
                kept = list(answer)
                answer.append(77)
                self.assertEqual(kept, call(pool, codes(text), money))

    def test_nothing_is_printed_or_read(self):
        program = ("from poolday.pools import judge, total\n"
                   "judge(0, list(b'day a\\nrace 2\\n'), [])\n"
                   "total(0, [], [])\n")
        done = subprocess.run([sys.executable, "-c", program], capture_output=True,
                              stdin=subprocess.DEVNULL, check=True)
        self.assertEqual((b"", b""), (done.stdout, done.stderr))


if __name__ == "__main__":
    unittest.main()
