"""The document's words once more, in another way: a grammar as one pattern, combinations listed."""

import itertools
import re

NAME = "[a-z][a-z0-9]{0,11}"
NUMBER = "(?:0|[1-9][0-9]*)"
RACE = f"race {NUMBER}(?: couple {NUMBER} {NUMBER})*\n"
POOL = (f"pool {NAME} (?:place|order|any|legs) {NUMBER} from {NUMBER} take {NUMBER} break {NUMBER}"
        f" least {NUMBER} unit {NUMBER} none (?:refund|carry|fewer)\n")
CARD = re.compile(f"day {NAME}\n((?:{RACE})*)((?:{POOL})*)")
RANGES = {"place": range(1, 5), "order": range(2, 5), "any": range(2, 4), "legs": range(2, 7)}


def interests(line):
    """The interests of a race, or None if the line is against a limit."""
    numbers = [int(word) for word in line.split() if word.isdigit()]
    runners = numbers[0]
    couples = list(zip(numbers[1::2], numbers[2::2]))
    if runners not in range(2, 25) or len(couples) > 8:
        return None
    for at, (a, b) in enumerate(couples):
        before = couples[:at]
        if not 1 <= a < b <= runners or a in [pair[1] for pair in before]:
            return None
        if b in [pair[0] for pair in before] + [pair[1] for pair in before]:
            return None
    return [runner for runner in range(1, runners + 1) if runner not in [b for a, b in couples]]


def combinations(line, races):
    """All combinations of a pool in their order, or None if the line is against a limit."""
    words = line.split()
    kind, none = words[2], words[15]
    k, race, take, brk, least, unit = [int(words[at]) for at in (3, 5, 7, 9, 11, 13)]
    if k not in RANGES[kind] or take > 400 or brk not in range(1, 1001):
        return None
    if unit not in range(1, 10001) or (least != 0 and least not in range(unit, 2 * unit + 1)):
        return None
    if (kind == "place" and none == "fewer") or race not in range(1, len(races) + 1):
        return None
    if kind == "legs":
        legs = races[race - 1:][:k]
        return list(itertools.product(*legs)) if len(legs) == k else None
    runners = races[race - 1]
    if len(runners) < k:
        return None
    if kind == "place":
        return [(runner,) for runner in runners]
    rows = list(itertools.permutations(runners, k))
    return rows if kind == "order" else [row for row in rows if list(row) == sorted(row)]


def pools_of(card):
    """The combinations of each pool, or None if the bytes are no card."""
    found = CARD.fullmatch(bytes(card).decode("latin-1"))
    if found is None:
        return None
    races = [interests(line) for line in found[1].splitlines()]
    if None in races or not 1 <= len(races) <= 16:
        return None
    lines = found[2].splitlines()
    names = [line.split()[1] for line in lines]
    if len(lines) > 64 or len(set(names)) < len(names):
        return None
    pools = [combinations(line, races) for line in lines]
    return None if None in pools else pools


def is_right(money, count):
    numbers, cents = money[0::2], money[1::2]
    return (numbers == sorted(set(numbers)) and all(number < count for number in numbers)
            and 0 not in cents and len(numbers) <= 262144 and sum(cents) < 2 ** 48)


def total(pool, card, money):
    if len(card) > 65536:
        return [-2]
    pools = pools_of(card)
    if pools is None:
        return [-8]
    if pool >= len(pools):
        return [-4]
    if not is_right(money, len(pools[pool])):
        return [-3]
    return [0, sum(money[1::2])]
