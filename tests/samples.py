"""Cards and money for the tests, and how the tests ask about them."""

import unittest

from poolday.pools import judge, total

HIGHEST_POOL = 4294967295
HIGHEST_CENTS = 18446744073709551615
MOST_CENTS = 2 ** 48 - 1


def codes(text):
    """The bytes of a text, as the calls take them."""
    return list(text.encode("latin-1"))


def pool_line(name="win", kind="place 1", race=1, take=150, brk=10, least=0, unit=100, none="refund"):
    return (f"pool {name} {kind} from {race} take {take} break {brk}"
            f" least {least} unit {unit} none {none}\n")


def card_of(races, pools):
    """The text of a card; a race is what stands behind the word race."""
    return "day monday\n" + "".join(f"race {race}\n" for race in races) + "".join(pools)


# Interests: 1 2 3 5; 1 2 3; 1 4 5 6; 1 to 24; 1.
RACES = ["5 couple 2 4", "3", "6 couple 1 2 couple 1 3", "24", "2 couple 1 2"]
POOLS = [
    pool_line("win", "place 1", 1),
    pool_line("show", "place 3", 2, take=0, brk=1, least=1, unit=1, none="carry"),
    pool_line("exacta", "order 2", 1, least=100, none="fewer"),
    pool_line("super", "order 4", 3, least=200),
    pool_line("quinella", "any 2", 1, none="fewer"),
    pool_line("trio", "any 3", 4, none="carry"),
    pool_line("double", "legs 2", 1),
    pool_line("pick5", "legs 5", 1, none="fewer"),
    pool_line("last2", "legs 2", 4),
]
COUNTS = [4, 3, 12, 24, 6, 2024, 12, 4 * 3 * 4 * 24 * 1, 24]
DAY = card_of(RACES, POOLS)


class CallTest(unittest.TestCase):
    """Asks judge and total at once, since they refuse the same."""

    def assert_right(self, text, money, pool=0):
        card = codes(text)
        self.assert_answer([0], judge(pool, card, money))
        self.assert_answer([0, sum(money[1::2])], total(pool, card, money))

    def assert_refused(self, number, text, money=(), pool=0):
        card = codes(text)
        self.assert_answer([number], judge(pool, card, list(money)))
        self.assert_answer([number], total(pool, card, list(money)))

    def assert_answer(self, expected, answer):
        self.assertEqual(expected, answer)
        self.assertIs(list, type(answer))
        for number in answer:
            self.assertIs(int, type(number))

    def assert_card(self, text):
        """No card has so many pools: -4 tells that the text is a card."""
        self.assert_refused(-4, text, [], HIGHEST_POOL)

    def assert_no_card(self, text):
        self.assert_refused(-8, text, [], HIGHEST_POOL)

    def assert_pool(self, **words):
        """A pool line is right on a card of 16 races with 24 runners."""
        self.assert_card(card_of(["24"] * 16, [pool_line(**words)]))

    def assert_no_pool(self, **words):
        self.assert_no_card(card_of(["24"] * 16, [pool_line(**words)]))
