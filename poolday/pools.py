"""The calls: each answers a list of whole numbers, a refusal being one below 0 alone."""

from poolday.amounts import cents_on, is_right, sum_of_cents, sum_on, with_other, with_stake, without_stake
from poolday.bets import NoBet, read_bet
from poolday.cards import NoCard, read_card
from poolday.combinations import count_combinations, leg_numbers_among

MOST_CARD_BYTES = 65536
MOST_BET_BYTES = 4096


class Asked:
    """What a call asks about: how many combinations its pool has, and the bet if it has one.

    The refusal is the one that comes first in the document's order; 0 if there is none.
    """

    def __init__(self, refusal, combinations=0, bet=None):
        self.refusal = refusal
        self.combinations = combinations
        self.bet = bet


def judge(pool, card, money):
    """Whether money is right for a pool of a card: 0, or a refusal."""
    return [ask_pool(pool, card, [money]).refusal]


def total(pool, card, money):
    """0 and all cents together, or a refusal."""
    asked = ask_pool(pool, card, [money])
    if asked.refusal < 0:
        return [asked.refusal]
    return [0, sum_of_cents(money)]


def on(pool, number, card, money):
    """0 and the cents on the combination with this number, or a refusal."""
    asked = ask_pool(pool, card, [money])
    if asked.refusal < 0:
        return [asked.refusal]
    if number >= asked.combinations:
        return [-1]
    return [0, cents_on(money, number)]


def put(card, bet, money):
    """0 and the money with the bet put in, or a refusal."""
    asked = ask_bet(card, bet, money)
    if asked.refusal < 0:
        return [asked.refusal]
    if asked.bet.numbers is None:
        return [-9]
    after = with_stake(money, asked.bet.numbers, asked.bet.stake)
    if not is_right(after, asked.combinations):
        return [-9]
    return [0] + after


def back(card, bet, money):
    """0 and the money with the bet taken back, or a refusal."""
    asked = ask_bet(card, bet, money)
    if asked.refusal < 0:
        return [asked.refusal]
    if asked.bet.numbers is None:
        return [-5]
    after = without_stake(money, asked.bet.numbers, asked.bet.stake)
    if after is None:
        return [-5]
    return [0] + after


def join(pool, card, money, other):
    """0 and the money of both together, or a refusal."""
    asked = ask_pool(pool, card, [money, other])
    if asked.refusal < 0:
        return [asked.refusal]
    after = with_other(money, other)
    if not is_right(after, asked.combinations):
        return [-9]
    return [0] + after


def bet(card, bet, money):
    """0 and the cents on all combinations of the bet together, or a refusal."""
    asked = ask_bet(card, bet, money)
    if asked.refusal < 0:
        return [asked.refusal]
    numbers = asked.bet.numbers
    if numbers is None:
        # Legs may have millions of combinations; what money names is far less.
        numbers = leg_numbers_among(money[0::2], asked.bet.sets, asked.bet.pool.races)
    return [0, sum_on(money, numbers)]


def ask_pool(pool, card, moneys):
    """What a call asks of a pool by its number, with one money or more."""
    if len(card) > MOST_CARD_BYTES:
        return Asked(-2)
    try:
        pools = read_card(card)
    except NoCard:
        return Asked(-8)
    if pool >= len(pools):
        return Asked(-4)
    combinations = count_combinations(pools[pool])
    if not all([is_right(money, combinations) for money in moneys]):
        return Asked(-3)
    return Asked(0, combinations)


def ask_bet(card, bet, money):
    """What a call asks of a bet, with the money of its pool."""
    if len(card) > MOST_CARD_BYTES or len(bet) > MOST_BET_BYTES:
        return Asked(-2)
    try:
        pools = read_card(card)
    except NoCard:
        return Asked(-8)
    try:
        told = read_bet(bet, pools)
    except NoBet:
        return Asked(-6)
    combinations = count_combinations(told.pool)
    if not is_right(money, combinations):
        return Asked(-3)
    return Asked(0, combinations, told)
