"""Every call against the reference, on many cards and bets that are right or nearly so."""

import random
import unittest

from poolday import pools
from tests import reference
from tests.samples import codes, key_of, on_of, pool_line, set_of

CASES = 4000
NUMBERS = [str(number) for number in (0, 1, 2, 3, 4, 5, 6, 7, 8, 24, 25, 100, 400, 401, 1000, 1001)]
WORDS = NUMBERS + ["", "x", "couple", "race", "place", "order", "any", "legs", "fewer", "01", "-1"]
BET_WORDS = NUMBERS + ["", "bet", "for", "on", "box", "key", "with", "/", "1,2", "1,2,3", "2,1", "1,", "p", "q"]
CENTS = [1, 2, 100, 2 ** 47, 2 ** 48 - 1]


def some_race(rng):
    runners = rng.randint(5, 7)
    words = f"race {runners}"
    for follower in rng.sample(range(3, runners + 1), rng.randint(0, 2)):
        words += f" couple {rng.randint(1, 2)} {follower}"
    return words + "\n"


def some_pool(rng, name, races):
    kind = rng.choice(["place", "order", "any"] + ["legs"] * (races >= 3))
    k = rng.randint(1 if kind == "place" else 2, 3)
    race = rng.randint(1, races - k + 1 if kind == "legs" else races)
    unit = rng.choice([1, 2, 100, 10000])
    none = rng.choice(["refund", "carry"] + ["fewer"] * (kind != "place"))
    least = rng.choice([0, unit, unit * 2])
    return pool_line(name, f"{kind} {k}", race, rng.choice([0, 400]), 1000, least, unit, none)


def some_card(rng):
    races = rng.randint(1, 5)
    count = rng.randint(0, 4)
    names = ["p", "q", "r", "s"]
    lines = [some_race(rng) for race in range(races)]
    lines += [some_pool(rng, names[pool], races) for pool in range(count)]
    return "day d\n" + "".join(lines)


def with_a_change(rng, text, others):
    """One word, line or sign made another, taken out or doubled."""
    way = rng.randint(0, 3)
    if way == 0:
        words = text.split(" ")
        words[rng.randrange(len(words))] = rng.choice(others)
        return " ".join(words)
    if way == 1:
        lines = text.splitlines(keepends=True)
        lines.insert(rng.randrange(len(lines) + 1), lines.pop(rng.randrange(len(lines))))
        return "".join(lines)
    at = rng.randrange(len(text))
    signs = rng.choice(["", " ", "\n", "0", "1", "9", "a", ",", "/", text[at] * 2, "\x00", "\xb2"])
    return text[:at] + signs + text[at + 1:]


def with_some_changes(rng, text, others):
    for change in range(rng.choice([0, 0, 0, 0, 0, 1, 2])):
        text = with_a_change(rng, text, others) if text else text
    return text


def some_numbers(rng, runners, least=1):
    """A set of a race's interests, rising."""
    return sorted(rng.sample(runners, rng.randint(min(least, len(runners)), len(runners))))


def some_form(rng, pool):
    """What stands behind a bet's stake, mostly right for the pool."""
    way = rng.choice(["on", "on", "box", "key"]) if pool.kind in ("order", "any") else "on"
    if way == "on":
        legs = pool.races if pool.kind == "legs" else pool.races * (1 if pool.kind == "place" else pool.k)
        return on_of(some_numbers(rng, leg) for leg in legs)
    if way == "box":
        return f"box {set_of(some_numbers(rng, pool.races[0], pool.k))}"
    numbers = rng.sample(pool.races[0], rng.randint(pool.k, len(pool.races[0])))
    keyed = rng.randint(1, pool.k - 1)
    return key_of(sorted(numbers[:keyed]), sorted(numbers[keyed:]))


def some_bet(rng, told):
    """A bet on some pool, mostly right."""
    if not told:
        return "bet p for 100 on 1\n"
    pool = rng.choice(told)
    stake = pool.unit * rng.choice([1, 1, 2, 3, 1000000 // pool.unit])
    return with_some_changes(rng, f"bet {pool.name} for {stake} {some_form(rng, pool)}\n", BET_WORDS)


def some_money(rng, count, most_pairs=5):
    """Money that is mostly right for a pool with so many combinations."""
    numbers = sorted(rng.sample(range(count), rng.randint(0, min(count, most_pairs))))
    money = []
    for number in numbers:
        money += [number, rng.choice(CENTS[:3])]
    if money and rng.random() < 0.2:
        at = rng.randrange(len(money))
        money[at] = rng.choice([0, money[at - 2], count - 1, count, 2 ** 32 - 1] + CENTS)
    return money


def some_stakes(rng, right):
    """Money that mostly has a bet's stake on all its numbers, on some of them just that."""
    pool, stake, numbers = right
    cents = dict.fromkeys(rng.sample(range(len(pool.rows)), rng.randint(0, len(pool.rows))), 3)
    for number in numbers:
        cents[number] = stake + rng.choice([0, 0, 1, stake])
    if rng.random() < 0.3:
        cents[rng.choice(numbers)] = rng.randint(1, stake)
    return [part for number in sorted(cents) for part in (number, cents[number])]


class AgainstTheReference(unittest.TestCase):
    def setUp(self):
        self.rng = random.Random(20261116)
        self.answers = {}

    def compare(self, call, *values):
        expected = getattr(reference, call)(*values)
        self.assertEqual(expected, getattr(pools, call)(*values), (call, *values))
        answers = self.answers.setdefault(call, {})
        answers[expected[0]] = answers.get(expected[0], 0) + 1

    def assert_often(self, call, *wanted):
        """Each answer must come often, or the cards made here say little."""
        for answer in wanted:
            self.assertGreater(self.answers[call].get(answer, 0), CASES // 50, (call, self.answers[call]))

    def some_card(self):
        card = codes(with_some_changes(self.rng, some_card(self.rng), WORDS))
        return card, reference.pools_of(card) or []

    def test_calls_of_a_pool(self):
        for case in range(CASES):
            card, told = self.some_card()
            pool = self.rng.randint(0, max(0, len(told) - (self.rng.random() < 0.9)))
            count = len(told[pool].rows) if pool < len(told) else 9
            money = some_money(self.rng, count)
            number = self.rng.choice(money[0::2] + [0, self.rng.randrange(count), count - 1, count, 2 ** 32 - 1])
            self.compare("judge", pool, card, money)
            self.compare("total", pool, card, money)
            self.compare("on", pool, number, card, money)
            self.compare("join", pool, card, money, some_money(self.rng, count))
            self.compare("join", pool, card, money, money)
        for call in ("judge", "total", "on", "join"):
            self.assert_often(call, 0, -8, -4, -3)
        self.assert_often("on", -1)

    def test_calls_of_a_bet(self):
        for case in range(CASES):
            card, told = self.some_card()
            bet = codes(some_bet(self.rng, told))
            right = reference.bet_of(told, bet)
            money = some_money(self.rng, len(right[0].rows) if right else 9)
            for call in ("put", "back", "bet"):
                self.compare(call, card, bet, money)
            if right:
                stakes = some_stakes(self.rng, right)
                self.compare("back", card, bet, stakes)
                self.compare("bet", card, bet, stakes)
        for call in ("put", "back", "bet"):
            self.assert_often(call, 0, -8, -6, -3)
        self.assert_often("back", -5)


if __name__ == "__main__":
    unittest.main()
