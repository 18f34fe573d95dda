"""The calls: each answers a list of whole numbers, a refusal being one below 0 alone."""

from poolday.amounts import is_right, sum_of_cents
from poolday.cards import NoCard, read_card
from poolday.combinations import count_combinations

MOST_CARD_BYTES = 65536


def judge(pool, card, money):
    """Whether money is right for a pool of a card: 0, or a refusal."""
    return [first_refusal(pool, card, money)]


def total(pool, card, money):
    """0 and all cents together, or a refusal."""
    refusal = first_refusal(pool, card, money)
    if refusal < 0:
        return [refusal]
    return [0, sum_of_cents(money)]


def first_refusal(pool, card, money):
    """The refusal that comes first in the document's order; 0 if there is none."""
    if len(card) > MOST_CARD_BYTES:
        return -2
    try:
        told = read_card(card)
    except NoCard:
        return -8
    if pool >= len(told.pools):
        return -4
    if not is_right(money, count_combinations(told, told.pools[pool])):
        return -3
    return 0
