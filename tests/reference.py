"""The document's words once more, in another way: a grammar as one pattern, combinations listed."""

import collections
import itertools
import re

NAME = "[a-z][a-z0-9]{0,11}"
NUMBER = "(?:0|[1-9][0-9]*)"
RACE = f"race {NUMBER}(?: couple {NUMBER} {NUMBER})*\n"
POOL = (f"pool {NAME} (?:place|order|any|legs) {NUMBER} from {NUMBER} take {NUMBER} break {NUMBER}"
        f" least {NUMBER} unit {NUMBER} none (?:refund|carry|fewer)\n")
CARD = re.compile(f"day {NAME}\n((?:{RACE})*)((?:{POOL})*)")
SET = f"{NUMBER}(?:,{NUMBER})*"
BET = re.compile(f"bet ({NAME}) for ({NUMBER}) (?:on ({SET}(?: / {SET})*)|box ({SET})|key ({SET}) with ({SET}))\n")
RANGES = {"place": range(1, 5), "order": range(2, 5), "any": range(2, 4), "legs": range(2, 7)}

# rows are all combinations in their order; races the interests of the race, or of each leg's.
Pool = collections.namedtuple("Pool", "name kind k unit races rows")


def interests(line):
    """The interests of a race, or None if the line is against a limit."""
    numbers = [int(word) for word in line.split() if word.isdigit()]
    runners = numbers[0]
    couples = list(zip(numbers[1::2], numbers[2::2]))
    if runners not in range(2, 25) or len(couples) > 8:
        return None
    for at, (a, b) in enumerate(couples):
        before = couples[:at]
        if not 1 <= a < b <= runners or a in [pair[1] for pair in before]:
            return None
        if b in [pair[0] for pair in before] + [pair[1] for pair in before]:
            return None
    return [runner for runner in range(1, runners + 1) if runner not in [b for a, b in couples]]


def pool_of(line, races):
    """The pool that a line tells, or None if it is against a limit."""
    words = line.split()
    kind, none = words[2], words[15]
    k, race, take, brk, least, unit = [int(words[at]) for at in (3, 5, 7, 9, 11, 13)]
    if k not in RANGES[kind] or take > 400 or brk not in range(1, 1001):
        return None
    if unit not in range(1, 10001) or (least != 0 and least not in range(unit, 2 * unit + 1)):
        return None
    if (kind == "place" and none == "fewer") or race not in range(1, len(races) + 1):
        return None
    own = races[race - 1:][:k] if kind == "legs" else [races[race - 1]]
    if (len(own) if kind == "legs" else len(own[0])) < k:
        return None
    return Pool(words[1], kind, k, unit, own, combinations(kind, k, own))


def combinations(kind, k, races):
    """All combinations in their order."""
    if kind == "legs":
        return list(itertools.product(*races))
    if kind == "place":
        return [(runner,) for runner in races[0]]
    rows = list(itertools.permutations(races[0], k))
    return rows if kind == "order" else [row for row in rows if list(row) == sorted(row)]


def pools_of(card):
    """The pools of a card, or None if the bytes are none."""
    found = CARD.fullmatch(bytes(card).decode("latin-1"))
    if found is None:
        return None
    races = [interests(line) for line in found[1].splitlines()]
    if None in races or not 1 <= len(races) <= 16:
        return None
    lines = found[2].splitlines()
    names = [line.split()[1] for line in lines]
    if len(lines) > 64 or len(set(names)) < len(names):
        return None
    pools = [pool_of(line, races) for line in lines]
    return None if None in pools else pools


def is_right(money, count):
    numbers, cents = money[0::2], money[1::2]
    return (numbers == sorted(set(numbers)) and all(number < count for number in numbers)
            and 0 not in cents and len(numbers) <= 262144 and sum(cents) < 2 ** 48)


def sets_of(words, legs):
    """The sets, each of interests of its leg and rising; None if one is not."""
    sets = [[int(number) for number in word.split(",")] for word in words]
    for numbers, leg in zip(sets, legs, strict=True):
        if numbers != sorted(set(numbers)) or not set(numbers) <= set(leg):
            return None
    return sets


def rows_on(pool, words):
    wanted = 1 if pool.kind == "place" else pool.k
    if len(words) != wanted:
        return []
    sets = sets_of(words, pool.races if pool.kind == "legs" else pool.races * wanted)
    if sets is None:
        return []

    def is_taken(row):
        return all(number in numbers for number, numbers in zip(row, sets, strict=True))

    if pool.kind == "any":
        return [row for row in pool.rows if any(map(is_taken, itertools.permutations(row)))]
    return [row for row in pool.rows if is_taken(row)]


def rows_key(pool, words):
    sets = sets_of(words, pool.races * 2)
    if pool.kind not in ("order", "any") or sets is None:
        return []
    keyed, others = map(set, sets)
    if not 1 <= len(keyed) < pool.k or keyed & others or len(keyed | others) < pool.k:
        return []
    return [row for row in pool.rows if keyed <= set(row) <= keyed | others]


def rows_box(pool, word):
    sets = sets_of([word], pool.races[:1])
    if pool.kind not in ("order", "any") or sets is None or len(sets[0]) < pool.k:
        return []
    return [row for row in pool.rows if set(row) <= set(sets[0])]


def bet_of(pools, bet):
    """The pool, the stake and the numbers of a bet, or None if the bytes are no bet of these pools."""
    found = BET.fullmatch(bytes(bet).decode("latin-1"))
    if found is None:
        return None
    name, stake, sets, box, keyed, others = found.groups()
    pool = {pool.name: pool for pool in pools}.get(name)
    if pool is None or not 0 < int(stake) <= 1000000 or int(stake) % pool.unit != 0:
        return None
    if sets is not None:
        rows = rows_on(pool, sets.split(" / "))
    else:
        rows = rows_box(pool, box) if box is not None else rows_key(pool, [keyed, others])
    if not rows or int(stake) * len(rows) >= 2 ** 31:
        return None
    numbers = {row: number for number, row in enumerate(pool.rows)}
    return pool, int(stake), [numbers[row] for row in rows]


def asked_pool(pool, card, *moneys):
    """The refusal that a call of a pool begins with, or 0; and how many combinations there are."""
    if len(card) > 65536:
        return -2, None
    pools = pools_of(card)
    if pools is None:
        return -8, None
    if pool >= len(pools):
        return -4, None
    count = len(pools[pool].rows)
    return 0 if all(is_right(money, count) for money in moneys) else -3, count


def asked_bet(card, bet, money):
    """The refusal that a call of a bet begins with, or 0; and the bet."""
    if len(card) > 65536 or len(bet) > 4096:
        return -2, None
    pools = pools_of(card)
    if pools is None:
        return -8, None
    told = bet_of(pools, bet)
    if told is None:
        return -6, None
    return 0 if is_right(money, len(told[0].rows)) else -3, told


def spread(money):
    """The cents on each number."""
    return collections.Counter(dict(zip(money[0::2], money[1::2])))


def gathered(cents):
    """Money with these cents on each number."""
    return [part for pair in sorted(cents.items()) if pair[1] for part in pair]


def judge(pool, card, money):
    return [asked_pool(pool, card, money)[0]]


def total(pool, card, money):
    refusal, count = asked_pool(pool, card, money)
    return [refusal] if refusal else [0, sum(money[1::2])]


def on(pool, number, card, money):
    refusal, count = asked_pool(pool, card, money)
    if refusal:
        return [refusal]
    return [0, spread(money)[number]] if number < count else [-1]


def put(card, bet, money):
    refusal, told = asked_bet(card, bet, money)
    if refusal:
        return [refusal]
    pool, stake, numbers = told
    after = gathered(spread(money) + spread([part for number in numbers for part in (number, stake)]))
    return [0] + after if is_right(after, len(pool.rows)) and len(numbers) <= 262144 else [-9]


def back(card, bet, money):
    refusal, told = asked_bet(card, bet, money)
    if refusal:
        return [refusal]
    pool, stake, numbers = told
    cents = spread(money)
    if min(cents[number] for number in numbers) < stake or len(numbers) > 262144:
        return [-5]
    return [0] + gathered(cents - spread([part for number in numbers for part in (number, stake)]))


def join(pool, card, money, other):
    refusal, count = asked_pool(pool, card, money, other)
    if refusal:
        return [refusal]
    after = gathered(spread(money) + spread(other))
    return [0] + after if is_right(after, count) else [-9]


def bet(card, text, money):
    refusal, told = asked_bet(card, text, money)
    if refusal:
        return [refusal]
    pool, stake, numbers = told
    return [0, sum(spread(money)[number] for number in numbers)]
