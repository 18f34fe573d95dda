"""The combinations of a pool."""


def count_combinations(card, pool):
    """How many combinations a pool of a card has."""
    if pool.kind == "legs":
        return count_legs(card.races[pool.race - 1:pool.race - 1 + pool.k])
    interests = len(card.races[pool.race - 1])
    if pool.kind == "place":
        return interests
    if pool.kind == "order":
        return count_rows(interests, pool.k)
    # Each set of k numbers can be put into as many rows as k numbers have orders.
    return count_rows(interests, pool.k) // count_rows(pool.k, pool.k)


def count_legs(races):
    """How many rows take one interest of each race."""
    rows = 1
    for interests in races:
        rows *= len(interests)
    return rows


def count_rows(interests, k):
    """How many rows of k different ones there are of so many interests."""
    rows = 1
    for taken in range(k):
        rows *= interests - taken
    return rows
