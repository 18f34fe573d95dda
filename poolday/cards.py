"""Cards: the races of a day and the pools on them, read from the bytes of a text."""

from poolday.texts import is_name, lines_of, number_of, text_of

MOST_RACES = 16
MOST_POOLS = 64
LEAST_RUNNERS = 2
MOST_RUNNERS = 24
MOST_COUPLES = 8
MOST_TAKE = 400
MOST_BREAK = 1000
MOST_UNIT = 10000

# The least and the greatest k of each kind of pool.
KINDS = {"place": (1, 4), "order": (2, 4), "any": (2, 3), "legs": (2, 6)}
NONES = ("refund", "carry", "fewer")

# The words that are the same in every line of a pool, by where they stand.
POOL_WORDS = {0: "pool", 4: "from", 6: "take", 8: "break", 10: "least", 12: "unit", 14: "none"}
POOL_LENGTH = 16


class NoCard(ValueError):
    """The text is no card."""


class Pool:
    """A pool of a card; races are the interests, rising, of its race or of each leg's race."""

    def __init__(self, name, kind, k, races, unit):
        self.name = name
        self.kind = kind
        self.k = k
        self.races = races
        self.unit = unit


def demand(holds):
    """Refuse the card unless something holds."""
    if not holds:
        raise NoCard("the text is no card")


def number_within(word, lowest, highest):
    """The number that a word is, if it is one of this range."""
    number = number_of(word)
    demand(lowest <= number <= highest)
    return number


def read_card(codes):
    """The pools of the card that a list of bytes is; NoCard if it is none."""
    lines = lines_of(text_of(codes))
    demand(lines is not None and len(lines) > 0)
    check_day(lines[0])
    race_count = count_races(lines)
    demand(1 <= race_count <= MOST_RACES)
    races = [read_race(words) for words in lines[1:1 + race_count]]
    pool_lines = lines[1 + race_count:]
    demand(len(pool_lines) <= MOST_POOLS)
    pools = [read_pool(words, races) for words in pool_lines]
    check_names_differ(pools)
    return pools


def check_day(words):
    """Refuse a first line that is not the day's."""
    demand(len(words) == 2 and words[0] == "day" and is_name(words[1]))


def count_races(lines):
    """How many lines of races stand behind the first line, before any other line."""
    races = 0
    for words in lines[1:]:
        if words[0] != "race":
            break
        races += 1
    return races


def read_race(words):
    """The interests of a race, rising."""
    demand(len(words) % 3 == 2)
    demand(len(words) <= 2 + 3 * MOST_COUPLES)
    runners = number_within(words[1], LEAST_RUNNERS, MOST_RUNNERS)
    heads = {}
    followers = {}
    for at in range(2, len(words), 3):
        demand(words[at] == "couple")
        head = number_within(words[at + 1], 1, runners)
        follower = number_within(words[at + 2], head + 1, runners)
        demand(head not in followers)
        demand(follower not in heads and follower not in followers)
        heads[head] = True
        followers[follower] = True
    return [runner for runner in range(1, runners + 1) if runner not in followers]


def read_pool(words, races):
    """The pool that a line tells, on a card with these races."""
    demand(len(words) == POOL_LENGTH)
    for at in POOL_WORDS:
        demand(words[at] == POOL_WORDS[at])
    demand(is_name(words[1]))
    kind = words[2]
    demand(kind in KINDS)
    k = number_within(words[3], KINDS[kind][0], KINDS[kind][1])
    own_races = read_pool_races(words[5], kind, k, races)
    number_within(words[7], 0, MOST_TAKE)
    number_within(words[9], 1, MOST_BREAK)
    unit = number_within(words[13], 1, MOST_UNIT)
    least = number_within(words[11], 0, 2 * unit)
    demand(least == 0 or least >= unit)
    demand(words[15] in NONES)
    demand(words[15] != "fewer" or kind != "place")
    return Pool(words[1], kind, k, own_races, unit)


def read_pool_races(word, kind, k, races):
    """The interests of a pool's race, or of each of its races if it has legs."""
    race = number_within(word, 1, len(races))
    if kind == "legs":
        demand(race + k - 1 <= len(races))
        return races[race - 1:race - 1 + k]
    demand(len(races[race - 1]) >= k)
    return [races[race - 1]]


def check_names_differ(pools):
    """Refuse pools of which two have one name."""
    names = {}
    for pool in pools:
        demand(pool.name not in names)
        names[pool.name] = True
