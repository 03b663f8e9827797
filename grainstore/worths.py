"""What a bushel is worth on each day, and the gain that worths bar any dealing from going beyond."""

from grainstore.days import BUY_MOST, BUY_PRICE, SELL_MOST, SELL_PRICE
from grainstore.shelf import Shelf


def bound_by(days, room, worths):
    bound = 0
    for at, day in enumerate(days):
        worth = worths[at]
        bound += day[BUY_MOST] * max(worth - day[BUY_PRICE], 0)
        bound += day[SELL_MOST] * max(day[SELL_PRICE] - worth, 0)
        if at > 0:
            bound += room * max(worth - worths[at - 1], 0)
    return bound


# Seen alone with the days ahead, a day's best worth is free between two prices that don't hang on the days behind.
# So the last day's worth is settled first (behind it a bushel is worth 0), and each other one stays as near to that
# of the next day as its two prices let it.
def best_worths(days, room):
    worth = 0
    backwards = []
    for limits in reversed(limits_of_worths(days, room)):
        worth = nearest_within(worth, limits)
        backwards.append(worth)
    return list(reversed(backwards))


# The shelf holds at which price each bushel could be had behind the day: kept from the day ahead, bought on it, or
# held back from its sale, which costs the selling price. As many as can be sold go for that, the cheapest first;
# of the others those that find no room, the dearest, are never kept.
def limits_of_worths(days, room):
    shelf = Shelf()
    limits = []
    for day in days:
        shelf.put(day[BUY_PRICE], day[BUY_MOST])
        shelf.put(day[SELL_PRICE], day[SELL_MOST])
        low = shelf.take_cheapest(day[SELL_MOST])
        high = shelf.drop_dearest(room)
        limits.append((low, high))
    return limits


# No high limit (None) is there where all that can be had finds room.
def nearest_within(worth, limits):
    if worth < limits[0]:
        return limits[0]
    if limits[1] is not None and worth > limits[1]:
        return limits[1]
    return worth
