"""Money: one list, for each pair a combination's number and then its cents."""

MOST_PAIRS = 262144
# 2 to the 48th, less 1.
MOST_CENTS = 281474976710655


def is_right(money, combinations):
    """Whether money is right for a pool with so many combinations."""
    if len(money) > 2 * MOST_PAIRS:
        return False
    before = -1
    for at in range(0, len(money), 2):
        if not before < money[at] < combinations:
            return False
        if money[at + 1] < 1:
            return False
        before = money[at]
    return sum_of_cents(money) <= MOST_CENTS


def sum_of_cents(money):
    """All cents together."""
    return sum(money[1::2])
