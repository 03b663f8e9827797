"""What a dealing stores, what it gains, and whether it can be."""

from grainstore.checks import check_days, check_dealing, check_room

# Where each number stands in a day.
BUY_PRICE = 0
BUY_MOST = 1
SELL_PRICE = 2
SELL_MOST = 3

# Where each number stands in a deed.
BOUGHT = 0
SOLD = 1


def stored(days, dealing):
    check_days(days)
    check_dealing(days, dealing)
    return stored_behind_each(dealing)


def gained(days, dealing):
    check_days(days)
    check_dealing(days, dealing)
    return sum([gained_on(day, deed) for day, deed in zip(days, dealing)])


def barred(days, room, dealing):
    check_days(days)
    check_room(room)
    check_dealing(days, dealing)
    for at, bushels in enumerate(stored_behind_each(dealing)):
        if goes_beyond_most(days[at], dealing[at]) or bushels < 0 or bushels > room:
            return at
    return -1


def stored_behind_each(dealing):
    bushels = 0
    behind = []
    for deed in dealing:
        bushels += deed[BOUGHT] - deed[SOLD]
        behind.append(bushels)
    return behind


def gained_on(day, deed):
    return day[SELL_PRICE] * deed[SOLD] - day[BUY_PRICE] * deed[BOUGHT]


def goes_beyond_most(day, deed):
    return deed[BOUGHT] > day[BUY_MOST] or deed[SOLD] > day[SELL_MOST]
