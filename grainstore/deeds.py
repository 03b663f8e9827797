"""The dealing that best worths ask for.

By best worths every bushel that is bought, sold or stored at a gain must be, and
none may be at a loss. Only where it is neither the dealing is free, and there it
must be chosen so that each day's store comes out of the store ahead.
"""

from grainstore.days import BUY_MOST, BUY_PRICE, SELL_MOST, SELL_PRICE

# Where each number stands in a span.
LEAST = 0
MOST = 1


def dealing_by(days, room, worths):
    buying = [span_by(worth - day[BUY_PRICE], day[BUY_MOST]) for day, worth in zip(days, worths)]
    selling = [span_by(day[SELL_PRICE] - worth, day[SELL_MOST]) for day, worth in zip(days, worths)]
    changes = [(bought[LEAST] - sold[MOST], bought[MOST] - sold[LEAST]) for bought, sold in zip(buying, selling)]
    stores = chosen_stores(least_stores(changes, room, worths), changes)
    dealing = []
    for at in range(len(days)):
        dealing.append(deed_of(buying[at], selling[at], stores[at + 1] - stores[at]))
    return dealing


def span_by(gain_of_one, most):
    if gain_of_one > 0:
        return (most, most)
    if gain_of_one < 0:
        return (0, 0)
    return (0, most)


# The first one told is the store ahead of the first day.
def least_stores(changes, room, worths):
    store = 0
    least = [store]
    for at, change in enumerate(changes):
        store = max(store + change[LEAST], least_kept(at, room, worths))
        least.append(store)
    return least


# Where the worth rises, storing is a gain, so the store must be full.
def least_kept(at, room, worths):
    if at + 1 < len(worths) and worths[at + 1] > worths[at]:
        return room
    return 0


# From the last day back each store is the least from which the next one can still be reached. That it is not too
# much needs no look: best worths are such that some dealing keeps to all of them, and none stores less than this.
def chosen_stores(least, changes):
    store = least[len(changes)]
    backwards = [store]
    for at in range(len(changes) - 1, -1, -1):
        store = max(least[at], store - changes[at][MOST])
        backwards.append(store)
    return list(reversed(backwards))


def deed_of(bought, sold, change):
    further = change - (bought[LEAST] - sold[LEAST])
    return (bought[LEAST] + max(further, 0), sold[LEAST] + max(-further, 0))
