"""What the document tells, reckoned here without the program."""

import itertools


def is_number(value):
    return type(value) is int and value >= 0


def is_deed(value):
    return type(value) is tuple and len(value) == 2 and is_number(value[0]) and is_number(value[1])


def can_be(days, room, dealing):
    if len(dealing) != len(days):
        return False
    behind = 0
    for (buy_price, buy_most, sell_price, sell_most), (bought, sold) in zip(days, dealing):
        behind += bought - sold
        if not (0 <= bought <= buy_most and 0 <= sold <= sell_most and 0 <= behind <= room):
            return False
    return True


def gain_of(days, dealing):
    return sum(day[2] * sold - day[0] * bought for day, (bought, sold) in zip(days, dealing))


def sum_of_worths(days, room, worths):
    parts = []
    for at, (buy_price, buy_most, sell_price, sell_most) in enumerate(days):
        if worths[at] > buy_price:
            parts.append(buy_most * (worths[at] - buy_price))
        if sell_price > worths[at]:
            parts.append(sell_most * (sell_price - worths[at]))
        if at >= 1 and worths[at] > worths[at - 1]:
            parts.append(room * (worths[at] - worths[at - 1]))
    return sum(parts)


def is_best(days, room, dealing, worths):
    return (type(dealing) is list and type(worths) is list
            and len(dealing) == len(days) and len(worths) == len(days)
            and all(is_deed(deed) for deed in dealing) and all(is_number(worth) for worth in worths)
            and can_be(days, room, dealing)
            and gain_of(days, dealing) == sum_of_worths(days, room, worths))


def most_of_all_dealings(days, room):
    deeds = [list(itertools.product(range(day[1] + 1), range(day[3] + 1))) for day in days]
    return max(gain_of(days, dealing) for dealing in itertools.product(*deeds) if can_be(days, room, dealing))


# What can be gained without a store: on each day by itself.
def gain_day_by_day(days):
    return sum(min(day[1], day[3]) * max(day[2] - day[0], 0) for day in days)
