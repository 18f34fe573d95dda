"""What is handed in stays as it was, and nothing is kept: every call as if for the first time."""

import copy
import subprocess
import sys
import unittest

from poolday.pools import back, bet, join, judge, on, put, total
from tests.samples import DAY, MOST_CENTS, card_of, codes, on_of, pool_line

BETS = ["bet win for 100 on 1,3\n", "bet exacta for 100 box 1,2,5\n", "bet exacta for 200 key 1 with 2,3\n",
        "bet quinella for 100 on 1,2 / 2,3\n", "bet double for 100 on 1,5 / 2,3\n"]
NO_BETS = ["", "bet win for 100 on 4\n", "x" * 4200]
NO_CARDS = [DAY + "race 2\n", "x" * 66000]
MONEYS = [[], [0, 500, 2, 900], [0, 100, 1, 100, 2, 100, 3, 100], [2, MOST_CENTS], [3, 9, 0, 5], [0, 0]]

# More than 262,144 combinations.
MANY = card_of(["24"] * 6, [pool_line("six", "legs 6", unit=1)])
MANY_BET = f"bet six for 1 {on_of([range(1, 25)] * 6)}\n"


def pool_cases(call):
    cases = [(call, (pool, codes(DAY), money)) for pool in (0, 2, 5, 99) for money in MONEYS]
    return cases + [(call, (0, codes(text), [0, 5])) for text in NO_CARDS]


def on_cases():
    cases = pool_cases(on)
    return [(on, (pool, number, card, money)) for call, (pool, card, money) in cases for number in (0, 3, 9999)]


def join_cases():
    """Among them money and other that are one and the same list."""
    cases = [(join, (pool, card, money, money)) for call, (pool, card, money) in pool_cases(join)]
    return cases + [(join, (2, codes(DAY), money, other)) for money in MONEYS for other in MONEYS]


def bet_cases(call):
    cases = [(call, (codes(DAY), codes(text), money)) for text in BETS + NO_BETS for money in MONEYS]
    cases += [(call, (codes(MANY), codes(MANY_BET), money)) for money in MONEYS]
    return cases + [(call, (codes(text), codes(BETS[0]), [0, 5])) for text in NO_CARDS]


CASES = (pool_cases(judge) + pool_cases(total) + on_cases() + join_cases()
         + bet_cases(put) + bet_cases(back) + bet_cases(bet))


class Fixed(list):
    """A list that can't be changed, even for a while."""

    def refuse(self, *words, **more):
        raise AssertionError("what was handed in is being changed")

    append = clear = extend = insert = pop = remove = reverse = sort = refuse
    __setitem__ = __delitem__ = __iadd__ = __imul__ = refuse


def fixed(values):
    return [Fixed(value) if isinstance(value, list) else value for value in values]


def answers(cases):
    return [call(*copy.deepcopy(values)) for call, values in cases]


class Untouched(unittest.TestCase):
    def test_each_call_is_answered_and_refused_here(self):
        for call in {call for call, values in CASES}:
            firsts = {call(*values)[0] for other, values in CASES if other == call}
            self.assertLessEqual({0, -2, -8, -3}, firsts, call)

    def test_nothing_is_changed(self):
        for call, values in CASES:
            given = copy.deepcopy(values)
            call(*values)
            self.assertEqual(given, values)

    def test_nothing_is_changed_for_a_while_either(self):
        for call, values in CASES:
            self.assertEqual(call(*values), call(*fixed(values)))

    def test_nothing_is_kept(self):
        first = answers(CASES)
        self.assertEqual(first, answers(CASES[::-1])[::-1])
        self.assertEqual(first, answers(CASES))

    def test_a_second_call_with_the_same_values_answers_the_same(self):
        for call, values in CASES:
            self.assertEqual(call(*values), call(*values))

    def test_an_answer_that_is_changed_leaves_later_answers_and_the_values_alone(self):
        for call, values in CASES:
            given = copy.deepcopy(values)
            answer = call(*values)
            kept = list(answer)
            answer[0] = 76
            answer.append(77)
            self.assertEqual(given, values)
            self.assertEqual(kept, call(*values))

    def test_nothing_is_printed_or_read(self):
        program = ("import poolday.pools\n"
                   "card = list(b'day a\\nrace 2\\npool p place 1 from 1 take 0 break 1 least 0 unit 1 none carry\\n')\n"
                   "bet = list(b'bet p for 1 on 1\\n')\n"
                   "for call, values in CALLS:\n"
                   "    getattr(poolday.pools, call)(*values)\n")
        calls = ", ".join(f"('{call}', {values})" for call, values in PROGRAM_CALLS)
        done = subprocess.run([sys.executable, "-c", program.replace("CALLS", f"[{calls}]")], capture_output=True,
                              stdin=subprocess.DEVNULL, check=True)
        self.assertEqual((b"", b""), (done.stdout, done.stderr))


PROGRAM_CALLS = [("judge", "(0, card, [])"), ("total", "(0, [], [])"), ("total", "(0, card, [0, 1])"),
                 ("on", "(0, 0, card, [])"), ("put", "(card, bet, [])"), ("put", "(card, [], [])"),
                 ("back", "(card, bet, [0, 1])"), ("back", "(card, bet, [])"), ("join", "(0, card, [0, 1], [])"),
                 ("bet", "(card, bet, [0, 1])"), ("bet", "(card, bet, [0, 0])")]


if __name__ == "__main__":
    unittest.main()
