"""judge and total against the reference, on many cards that are right or nearly so."""

import random
import unittest

from poolday.pools import judge, total
from tests import reference
from tests.samples import codes, pool_line

CASES = 4000
NUMBERS = [str(number) for number in (0, 1, 2, 3, 4, 5, 6, 7, 8, 24, 25, 100, 400, 401, 1000, 1001)]
WORDS = NUMBERS + ["", "x", "couple", "race", "place", "order", "any", "legs", "fewer", "01", "-1"]
CENTS = [1, 2, 100, 2 ** 47, 2 ** 48 - 1]


def some_race(rng):
    runners = rng.randint(5, 7)
    words = f"race {runners}"
    for follower in rng.sample(range(3, runners + 1), rng.randint(0, 2)):
        words += f" couple {rng.randint(1, 2)} {follower}"
    return words + "\n"


def some_pool(rng, name, races):
    kind = rng.choice(["place", "order", "any"] + ["legs"] * (races >= 3))
    k = rng.randint(1 if kind == "place" else 2, 3)
    race = rng.randint(1, races - k + 1 if kind == "legs" else races)
    unit = rng.choice([1, 2, 100, 10000])
    none = rng.choice(["refund", "carry"] + ["fewer"] * (kind != "place"))
    least = rng.choice([0, unit, unit * 2])
    return pool_line(name, f"{kind} {k}", race, rng.choice([0, 400]), 1000, least, unit, none)


def some_card(rng):
    races = rng.randint(1, 5)
    pools = rng.randint(0, 4)
    names = ["p", "q", "r", "s"]
    lines = [some_race(rng) for race in range(races)]
    lines += [some_pool(rng, names[pool], races) for pool in range(pools)]
    return "day d\n" + "".join(lines)


def with_a_change(rng, text):
    """One word, line or sign made another, taken out or doubled."""
    way = rng.randint(0, 3)
    if way == 0:
        words = text.split(" ")
        words[rng.randrange(len(words))] = rng.choice(WORDS)
        return " ".join(words)
    if way == 1:
        lines = text.splitlines(keepends=True)
        lines.insert(rng.randrange(len(lines) + 1), lines.pop(rng.randrange(len(lines))))
        return "".join(lines)
    at = rng.randrange(len(text))
    put = rng.choice(["", " ", "\n", "0", "1", "9", "a", text[at] * 2, "\x00", "\xb2"])
    return text[:at] + put + text[at + 1:]


def some_money(rng, count):
    """Money that is mostly right for a pool with so many combinations."""
    numbers = sorted(rng.sample(range(count), rng.randint(0, min(count, 5))))
    money = []
    for number in numbers:
        money += [number, rng.choice(CENTS[:3])]
    if money and rng.random() < 0.4:
        at = rng.randrange(len(money))
        money[at] = rng.choice([0, money[at - 2], count - 1, count, 2 ** 32 - 1] + CENTS)
    return money


class AgainstTheReference(unittest.TestCase):
    def test_the_same_answers(self):
        rng = random.Random(20261116)
        answers = {}
        for case in range(CASES):
            text = some_card(rng)
            for change in range(rng.choice([0, 0, 0, 1, 2])):
                text = with_a_change(rng, text)
            card = codes(text)
            pools = reference.pools_of(card) or []
            pool = rng.randint(0, max(0, len(pools) - (rng.random() < 0.9)))
            count = len(pools[pool]) if pool < len(pools) else 9
            money = some_money(rng, count)
            expected = reference.total(pool, card, money)
            self.assertEqual(expected, total(pool, card, money), (pool, text, money))
            self.assertEqual(expected[:1], judge(pool, card, money), (pool, text, money))
            answers[expected[0]] = answers.get(expected[0], 0) + 1
        # Each answer must come often, or the cards made here say little.
        for answer in (0, -8, -4, -3):
            self.assertGreater(answers.get(answer, 0), CASES // 20, answers)


if __name__ == "__main__":
    unittest.main()
