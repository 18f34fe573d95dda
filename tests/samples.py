"""Cards and money for the tests, and how the tests ask about them."""

import collections
import unittest

from poolday.pools import back, bet, judge, put, total
from tests import reference

HIGHEST_POOL = 4294967295
HIGHEST_CENTS = 18446744073709551615
MOST_CENTS = 2 ** 48 - 1


def codes(text):
    """The bytes of a text, as the calls take them."""
    return list(text.encode("latin-1"))


def pool_line(name="win", kind="place 1", race=1, take=150, brk=10, least=0, unit=100, none="refund"):
    return (f"pool {name} {kind} from {race} take {take} break {brk}"
            f" least {least} unit {unit} none {none}\n")


def card_of(races, pools):
    """The text of a card; a race is what stands behind the word race."""
    return "day monday\n" + "".join(f"race {race}\n" for race in races) + "".join(pools)


# Interests: 1 2 3 5; 1 2 3; 1 4 5 6; 1 to 24; 1.
RACES = ["5 couple 2 4", "3", "6 couple 1 2 couple 1 3", "24", "2 couple 1 2"]
POOLS = [
    pool_line("win", "place 1", 1),
    pool_line("show", "place 3", 2, take=0, brk=1, least=1, unit=1, none="carry"),
    pool_line("exacta", "order 2", 1, least=100, none="fewer"),
    pool_line("super", "order 4", 3, least=200),
    pool_line("quinella", "any 2", 1, none="fewer"),
    pool_line("trio", "any 3", 4, none="carry"),
    pool_line("double", "legs 2", 1),
    pool_line("pick5", "legs 5", 1, none="fewer"),
    pool_line("last2", "legs 2", 4),
]
COUNTS = [4, 3, 12, 24, 6, 2024, 12, 4 * 3 * 4 * 24 * 1, 24]
DAY = card_of(RACES, POOLS)

# What stands behind the word race, and the interests that it leaves.
PLAIN_RACES = [("5", [1, 2, 3, 4, 5]), ("4", [1, 2, 3, 4]), ("2", [1, 2]), ("3", [1, 2, 3]),
               ("2", [1, 2]), ("3", [1, 2, 3])]
COUPLED_RACES = [("7 couple 2 4 couple 1 7", [1, 2, 3, 5, 6]), ("6 couple 1 2 couple 1 3", [1, 4, 5, 6]),
                 ("3 couple 1 2", [1, 3]), ("5 couple 4 5 couple 1 3", [1, 2, 4]),
                 ("2 couple 1 2", [1]), ("24 couple 23 24 couple 1 2 couple 3 4 couple 5 6 couple 7 8"
                                         " couple 9 10 couple 11 12 couple 13 14",
                                         [1, 3, 5, 7, 9, 11, 13, 15, 16, 17, 18, 19, 20, 21, 22, 23])]
KINDS = [("place", 1), ("place", 2), ("place", 3), ("place", 4), ("order", 2), ("order", 3),
         ("order", 4), ("any", 2), ("any", 3), ("legs", 2), ("legs", 3), ("legs", 4), ("legs", 5), ("legs", 6)]

# A card with its pool number at, and what the pool is; legs are the interests of its race or races.
Sample = collections.namedtuple("Sample", "card at name kind k legs")


def samples_of(races):
    """A pool of every kind and k, all on one card."""
    lines = [pool_line(f"{kind}{k}", f"{kind} {k}", 1, unit=5) for kind, k in KINDS]
    card = codes(card_of([words for words, interests in races], lines))
    interests = [interests for words, interests in races]
    return [Sample(card, at, f"{kind}{k}", kind, k, interests[:k] if kind == "legs" else interests[:1])
            for at, (kind, k) in enumerate(KINDS)]


SAMPLES = samples_of(PLAIN_RACES) + samples_of(COUPLED_RACES)


def set_of(numbers):
    return ",".join(str(number) for number in numbers)


def on_of(sets):
    return "on " + " / ".join(set_of(numbers) for numbers in sets)


def key_of(keyed, others):
    return f"key {set_of(keyed)} with {set_of(others)}"


def forms_of(sample):
    """What may stand behind the stake: on, box and key, narrow and wide, for a sample's pool."""
    legs, k = sample.legs, sample.k
    if sample.kind == "legs":
        return [on_of(leg[:1] for leg in legs), on_of(leg[-1:] for leg in legs),
                on_of(leg[:2] for leg in legs), on_of(leg[-3:] for leg in legs), on_of(legs)]
    runners = legs[0]
    if sample.kind == "place":
        return [on_of([runners[at:at + width]]) for width in (1, 2, 5) for at in range(6 - width)]
    forms = [on_of([number] for number in runners[:k]), on_of([number] for number in reversed(runners[:k])),
             on_of([runners] * k), on_of([runners[:at + 1] for at in range(k)]),
             on_of([runners[:at + 2] for at in range(k)]), on_of([runners[1:]] + [runners[:-1]] * (k - 1)),
             on_of([runners[-1:]] + [runners] * (k - 1)), on_of([runners] * (k - 1) + [runners[1:3]])]
    forms += [f"box {set_of(numbers)}" for numbers in (runners, runners[:k], runners[-k:], runners[:1] + runners[-k:])]
    for keyed in range(1, k):
        forms += [key_of(runners[:keyed], runners[keyed:]), key_of(runners[-keyed:], runners[:k - keyed]),
                  key_of(runners[1:1 + keyed], runners[:1] + runners[1 + keyed:])]
    return forms


def bet_of(name, stake, form):
    """The bytes of a bet."""
    return codes(f"bet {name} for {stake} {form}\n")


def numbers_of(sample, form):
    """The numbers of a bet's combinations, as the reference lists them."""
    return reference.bet_of(reference.pools_of(sample.card), bet_of(sample.name, 5, form))[2]


def money_on(numbers, cents):
    """Money with so many cents on each of these numbers."""
    return [part for number in numbers for part in (number, cents)]


class CallTest(unittest.TestCase):
    """Asks judge and total at once, since they refuse the same."""

    def assert_right(self, text, money, pool=0):
        card = codes(text)
        self.assert_answer([0], judge(pool, card, money))
        self.assert_answer([0, sum(money[1::2])], total(pool, card, money))

    def assert_refused(self, number, text, money=(), pool=0):
        card = codes(text)
        self.assert_answer([number], judge(pool, card, list(money)))
        self.assert_answer([number], total(pool, card, list(money)))

    def assert_answer(self, expected, answer):
        self.assertEqual(expected, answer)
        self.assertIs(list, type(answer))
        for number in answer:
            self.assertIs(int, type(number))

    def assert_card(self, text):
        """No card has so many pools: -4 tells that the text is a card."""
        self.assert_refused(-4, text, [], HIGHEST_POOL)

    def assert_no_card(self, text):
        self.assert_refused(-8, text, [], HIGHEST_POOL)

    def assert_pool(self, **words):
        """A pool line is right on a card of 16 races with 24 runners."""
        self.assert_card(card_of(["24"] * 16, [pool_line(**words)]))

    def assert_no_pool(self, **words):
        self.assert_no_card(card_of(["24"] * 16, [pool_line(**words)]))


class BetTest(CallTest):
    """Asks all calls that take a bet at once, since they refuse the same."""

    # Interests: 1 2 3 5; 1 2 3 4; 1 2 3 4; 1 to 24.
    CARD = card_of(["5 couple 2 4", "4", "6 couple 1 5 couple 1 6", "24"], [
        pool_line("win", "place 1", 1, unit=1), pool_line("show", "place 3", 1, unit=1),
        pool_line("order2", "order 2", 1, unit=1), pool_line("order3", "order 3", 1, unit=1),
        pool_line("order4", "order 4", 1, unit=1), pool_line("any2", "any 2", 1, unit=1),
        pool_line("any3", "any 3", 1, unit=1), pool_line("legs2", "legs 2", 1, unit=1),
        pool_line("legs3", "legs 3", 1, unit=1), pool_line("big", "order 3", 4, unit=1)])

    def assert_text(self, text, card=CARD):
        """The text is a bet of the card."""
        answer = put(codes(card), codes(text), [])
        self.assertEqual(0, answer[0], text)
        self.assert_answer(answer, answer)
        self.assert_answer([0], back(codes(card), codes(text), answer[1:]))
        self.assert_answer([0, sum(answer[2::2])], bet(codes(card), codes(text), answer[1:]))
        self.assert_answer([0, 0], bet(codes(card), codes(text), []))

    def assert_no_text(self, text, card=CARD):
        self.assert_bet_refused(-6, card, text)

    def assert_bet_refused(self, number, card, text, money=()):
        for call in (put, back, bet):
            self.assert_answer([number], call(codes(card), codes(text), list(money)))

    def assert_form(self, name, form):
        self.assert_text(f"bet {name} for 1 {form}\n")

    def assert_no_form(self, name, form):
        self.assert_no_text(f"bet {name} for 1 {form}\n")
