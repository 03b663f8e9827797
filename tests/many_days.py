"""Days of many sorts, the same ones at each run."""

import random

from samples import HUGE

LONG = 10 ** 24


def drawn_days(seed, count, prices, mosts):
    chance = random.Random(seed)
    return [(chance.choice(prices), chance.choice(mosts), chance.choice(prices), chance.choice(mosts))
            for at in range(count)]


# Buying is dearer than selling on each day, so that only a store can bring a gain.
def store_days(seed, count, lowest, highest, most):
    chance = random.Random(seed)
    days = []
    for at in range(count):
        price = chance.randint(lowest, highest)
        days.append((price + 1, chance.randint(0, most), price, chance.randint(0, most)))
    return days


def long_numbers(seed):
    chance = random.Random(seed)
    return [chance.randint(LONG, 10 * LONG) for at in range(200)]


PRICES = [
    ("alike", [7]),
    ("none", [0]),
    ("near", [99, 100, 101]),
    ("far", [0, 1, 50, 3000, 10 ** 9]),
    ("long", long_numbers(1)),
    ("long and near", [LONG, LONG + 1, LONG + 2]),
    ("of any size", [0, 1, 5, LONG, HUGE, HUGE + 1]),
]

MOSTS = [
    ("few", [0, 1, 2, 3]),
    ("none", [0]),
    ("one", [1]),
    ("many", [1000, 2500, 99999]),
    ("long", long_numbers(2)),
    ("of any size", [0, 1, 5, LONG, HUGE]),
]

ROOMS = [0, 1, 2, 5, 40, 10 ** 5, LONG, 3 * LONG + 1, HUGE, 10 ** 6000]


def special_days():
    return [
        ("no days", []),
        ("one day that gains", [(3, 5, 8, 4)]),
        ("one day that doesn't", [(8, 5, 3, 4)]),
        ("one day, prices alike", [(4, 5, 4, 5)]),
        ("one day of 0", [(0, 0, 0, 0)]),
        ("nothing can be bought", [(1, 0, 9, 5)] * 6),
        ("nothing can be sold", [(1, 5, 9, 0)] * 6),
        ("bought first, sold last", [(1, 9, 0, 0)] + [(5, 0, 3, 0)] * 7 + [(0, 0, 8, 9)]),
        ("sold first, bought last", [(0, 0, 8, 9)] + [(5, 0, 3, 0)] * 7 + [(1, 9, 0, 0)]),
        ("given away", [(0, 9, 0, 9)] * 5 + [(0, 3, 1, 4)]),
        ("prices rise", [(at + 1, 3, at, 2) for at in range(80)]),
        ("prices fall", [(81 - at, 3, 80 - at, 2) for at in range(80)]),
        ("prices go up and down", [(5 + 3 * (at % 2), 2, 4 + 3 * (at % 2), 3) for at in range(80)]),
        ("the same day", [(6, 4, 6, 4)] * 80),
        ("the same day that gains", [(6, 4, 7, 3)] * 80),
    ]


# A name, days and a room of every sort.
def cases():
    for name, days in special_days():
        for room in ROOMS:
            yield (name, days, room)
    for seed, (price_name, prices) in enumerate(PRICES):
        for most_name, mosts in MOSTS:
            for count in (1, 2, 3, 7, 20, 80):
                days = drawn_days(100 * seed + count, count, prices, mosts)
                for room in ROOMS:
                    yield (f"{count} days, prices {price_name}, bushels {most_name}", days, room)
    for count in (2, 5, 80):
        for lowest, highest, most in ((0, 9, 3), (0, 1000, 10 ** 4), (LONG, 9 * LONG, LONG)):
            for room in ROOMS:
                yield (f"{count} days for the store", store_days(count, count, lowest, highest, most), room)


def small_cases(how_many):
    chance = random.Random(77)
    for at in range(how_many):
        highest = chance.choice([1, 2, 4, 12])
        most = chance.choice([1, 2, 3])
        count = chance.randint(0, 3 if most > 1 else 5)
        days = [(chance.randint(0, highest), chance.randint(0, most), chance.randint(0, highest),
                 chance.randint(0, most)) for day in range(count)]
        yield (days, chance.choice([0, 1, 2, 3, 50]))
