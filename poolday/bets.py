"""Bets: one line on a pool of a card, read from the bytes of a text."""

from poolday.combinations import count_choices, leg_numbers, numbered_rows, set_number
from poolday.texts import lines_of, number_of, text_of

MOST_STAKE = 1000000
# 2 to the 31st, less 1: stake times combinations.
MOST_STAKED = 2147483647
MOST_NUMBERED = 262144

# How many words a line has with the least that may stand in it: one set.
LEAST_WORDS = 6


class NoBet(ValueError):
    """The text is no bet of the card."""


class Bet:
    """A bet: its pool, its stake, its sets of places, and the numbers of its combinations, rising.

    The numbers are None if there are more than 262,144, as only legs can have.
    """

    def __init__(self, pool, stake, sets, numbers):
        self.pool = pool
        self.stake = stake
        self.sets = sets
        self.numbers = numbers


def require(holds):
    """Refuse the bet unless something holds."""
    if not holds:
        raise NoBet("the text is no bet of the card")


def read_bet(codes, pools):
    """The bet that a list of bytes is on one of a card's pools; NoBet if it is none."""
    lines = lines_of(text_of(codes))
    require(lines is not None and len(lines) == 1)
    words = lines[0]
    require(len(words) >= LEAST_WORDS and words[0] == "bet" and words[2] == "for")
    pool = pool_called(words[1], pools)
    stake = read_stake(words[3], pool.unit)
    sets = read_sets(words[4:], pool)
    if pool.kind == "legs":
        count = count_choices(sets)
        check_staked(stake, count)
        numbers = leg_numbers(sets, pool.races) if count <= MOST_NUMBERED else None
    else:
        numbers = numbers_of_race(words[4], sets, pool)
        check_staked(stake, len(numbers))
    return Bet(pool, stake, sets, numbers)


def check_staked(stake, combinations):
    """Refuse a bet without a combination, or with too much staked in all."""
    require(combinations > 0 and stake * combinations <= MOST_STAKED)


def pool_called(name, pools):
    """The pool with this name."""
    found = [pool for pool in pools if pool.name == name]
    require(len(found) == 1)
    return found[0]


def read_stake(word, unit):
    """The stake that a word is."""
    stake = number_of(word)
    require(0 < stake <= MOST_STAKE and stake % unit == 0)
    return stake


def read_sets(words, pool):
    """The sets behind on, box or key, which is the first word."""
    if words[0] == "on":
        return read_on(words[1:], pool)
    require(pool.kind == "order" or pool.kind == "any")
    if words[0] == "box":
        return read_box(words[1:], pool)
    require(words[0] == "key")
    return read_key(words[1:], pool)


def read_on(words, pool):
    """The sets of on: one for each number of a combination."""
    sets = 1 if pool.kind == "place" else pool.k
    require(len(words) == 2 * sets - 1)
    require(all([word == "/" for word in words[1::2]]))
    races = pool.races if pool.kind == "legs" else pool.races * sets
    return [read_set(word, interests) for word, interests in zip(words[0::2], races)]


def read_box(words, pool):
    """The set of box, alone in a list."""
    require(len(words) == 1)
    places = read_set(words[0], pool.races[0])
    require(len(places) >= pool.k)
    return [places]


def read_key(words, pool):
    """The two sets of key."""
    require(len(words) == 3 and words[1] == "with")
    keyed = read_set(words[0], pool.races[0])
    others = read_set(words[2], pool.races[0])
    require(len(keyed) < pool.k)
    require(all([place not in others for place in keyed]))
    require(len(keyed) + len(others) >= pool.k)
    return [keyed, others]


def read_set(word, interests):
    """The places of a set's numbers among the interests, rising."""
    numbers = [number_of(part) for part in word.split(",")]
    require(all([number in interests for number in numbers]))
    places = [interests.index(number) for number in numbers]
    # A number that stands twice is taken out by set, so it is refused as well.
    require(places == sorted(set(places)))
    return places


def numbers_of_race(form, sets, pool):
    """The numbers of the combinations of a bet on a pool of one race, rising."""
    interests = len(pool.races[0])
    rows = rows_of_form(form, sets, pool.k, interests)
    if pool.kind != "any":
        return [number for row, number in rows]
    # What can be put into a row that on, box or key has is a set that it has.
    risen = sorted(set([tuple(sorted(row)) for row, number in rows]))
    return [set_number(row, interests) for row in risen]


def rows_of_form(form, sets, k, interests):
    """The rows of different places that on, box or key has, in order, each with its number."""
    if form == "on":
        return numbered_rows(sets, interests)
    if form == "box":
        return numbered_rows(sets * k, interests)
    rows = numbered_rows([sets[0] + sets[1]] * k, interests)
    return [(row, number) for row, number in rows if has_all(row, sets[0])]


def has_all(row, places):
    """Whether all these places stand in a row."""
    return all([place in row for place in places])
