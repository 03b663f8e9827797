"""Lots of bushels by their prices, taken from the cheap end and dropped from the dear end."""


class Lot:
    def __init__(self, price, bushels):
        self.price = price
        self.bushels = bushels


# The lots are as many as were put, however many bushels each has: so the work hangs on no number's size.
class Shelf:
    def __init__(self):
        self.lots = []
        self.total = 0

    def put(self, price, bushels):
        if bushels > 0:
            self.lots.insert(place_for(self.lots, price), Lot(price, bushels))
            self.total += bushels

    # Tells the dearest price that was taken, or 0, below which no price lies, if nothing was.
    def take_cheapest(self, bushels):
        price = 0
        still_to_take = bushels
        while still_to_take > 0:
            price = self.lots[0].price
            still_to_take -= self.shrink(0, still_to_take)
        return price

    # Tells the cheapest price that was dropped, or None if nothing was.
    def drop_dearest(self, room):
        price = None
        while self.total > room:
            last = len(self.lots) - 1
            price = self.lots[last].price
            self.shrink(last, self.total - room)
        return price

    def shrink(self, at, most):
        lot = self.lots[at]
        bushels = min(lot.bushels, most)
        lot.bushels -= bushels
        self.total -= bushels
        if lot.bushels == 0:
            self.lots.pop(at)
        return bushels


def place_for(lots, price):
    low = 0
    high = len(lots)
    while low < high:
        middle = (low + high) // 2
        if lots[middle].price < price:
            low = middle + 1
        else:
            high = middle
    return low
