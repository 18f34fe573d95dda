"""The combinations of a pool: how many there are, and their numbers.

A combination is told by places here: where each of its numbers stands, from 0, among the
interests of its race. Interests rise, so rows of places are in the order of rows of numbers.
"""


def count_combinations(pool):
    """How many combinations a pool has."""
    if pool.kind == "legs":
        return count_choices(pool.races)
    interests = len(pool.races[0])
    if pool.kind == "place":
        return interests
    if pool.kind == "order":
        return count_rows(interests, pool.k)
    return count_sets(interests, pool.k)


def count_choices(lists):
    """How many rows take one of each list."""
    rows = 1
    for choices in lists:
        rows *= len(choices)
    return rows


def count_rows(interests, k):
    """How many rows of k different ones there are of so many interests."""
    rows = 1
    for taken in range(k):
        rows *= interests - taken
    return rows


def count_sets(interests, k):
    """How many sets of k ones there are of so many interests."""
    # Each set of k can be put into as many rows as k ones have orders.
    return count_rows(interests, k) // count_rows(k, k)


def leg_numbers(sets, races):
    """The numbers, rising, of all rows of legs whose i-th place is of the i-th set."""
    numbers = [0]
    for places, interests in zip(sets, races):
        longer = []
        for number in numbers:
            longer.extend([number * len(interests) + place for place in places])
        numbers = longer
    return numbers


def leg_numbers_among(numbers, sets, races):
    """Those of these numbers whose row of legs has its i-th place in the i-th set."""
    return [number for number in numbers if is_leg_number(number, sets, races)]


def is_leg_number(number, sets, races):
    """Whether the row of legs with this number has its i-th place in the i-th set."""
    rest = number
    # The last leg changes first from one number to the next, so it is told apart first.
    for leg in range(len(races) - 1, -1, -1):
        interests = len(races[leg])
        if rest % interests not in sets[leg]:
            return False
        rest //= interests
    return True


def numbered_rows(sets, interests):
    """All rows of different places whose i-th is of the i-th set, in order, each with its number.

    The number is the row's among all rows of so many different places of so many interests.
    """
    rows = [((), 0)]
    for places in sets:
        longer = []
        for row, number in rows:
            free = [place for place in range(interests) if place not in row]
            for lesser, place in enumerate(free):
                if place in places:
                    longer.append((row + (place,), number * len(free) + lesser))
        rows = longer
    return rows


def set_number(row, interests):
    """The number of a rising row among all rising rows of so many places."""
    number = 0
    lowest = 0
    for at, place in enumerate(row):
        rest = len(row) - at - 1
        for lesser in range(lowest, place):
            number += count_sets(interests - lesser - 1, rest)
        lowest = place + 1
    return number
