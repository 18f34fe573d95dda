"""Money: one list, for each pair a combination's number and then its cents."""

MOST_PAIRS = 262144
# 2 to the 48th, less 1.
MOST_CENTS = 281474976710655


def is_right(money, combinations):
    """Whether money is right for a pool with so many combinations."""
    if len(money) > 2 * MOST_PAIRS:
        return False
    before = -1
    for at in range(0, len(money), 2):
        if not before < money[at] < combinations:
            return False
        if money[at + 1] < 1:
            return False
        before = money[at]
    return sum_of_cents(money) <= MOST_CENTS


def sum_of_cents(money):
    """All cents together."""
    return sum(money[1::2])


def by_number(money):
    """The cents of each number that a pair names."""
    return dict(zip(money[0::2], money[1::2]))


def in_pairs(cents):
    """The money with these cents by number; what has none is no pair."""
    money = []
    for number in sorted(cents):
        if cents[number] > 0:
            money.extend([number, cents[number]])
    return money


def cents_on(money, number):
    """The cents on the combination with this number."""
    return by_number(money).get(number, 0)


def sum_on(money, numbers):
    """The cents on the combinations with these numbers together."""
    cents = by_number(money)
    return sum([cents.get(number, 0) for number in numbers])


def with_stake(money, numbers, stake):
    """The money with a stake more on each of these numbers."""
    cents = by_number(money)
    for number in numbers:
        cents[number] = cents.get(number, 0) + stake
    return in_pairs(cents)


def without_stake(money, numbers, stake):
    """The money with a stake less on each of these numbers; None if one of them has less than that."""
    cents = by_number(money)
    for number in numbers:
        left = cents.get(number, 0) - stake
        if left < 0:
            return None
        cents[number] = left
    return in_pairs(cents)


def with_other(money, other):
    """The money of both together."""
    cents = by_number(money)
    for number, more in zip(other[0::2], other[1::2]):
        cents[number] = cents.get(number, 0) + more
    return in_pairs(cents)
