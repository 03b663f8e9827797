import itertools
import unittest

from grainstore.days import barred
from samples import HUGE

WIDE = (1, 100, 1, 100)


def first_barred_day(days, room, dealing):
    for at, (day, deed) in enumerate(zip(days, dealing)):
        behind = sum(bought for bought, sold in dealing[:at + 1]) - sum(sold for bought, sold in dealing[:at + 1])
        if not (deed[0] <= day[1] and deed[1] <= day[3] and 0 <= behind <= room):
            return at
    return -1


class Barred(unittest.TestCase):
    def test_no_days_can_always_be(self):
        for room in (0, 1, HUGE):
            self.assertEqual(barred([], room, []), -1)

    def test_nothing_done_can_always_be(self):
        self.assertEqual(barred([(0, 0, 0, 0)] * 3, 0, [(0, 0)] * 3), -1)

    def test_a_dealing_that_can_be(self):
        self.assertEqual(barred([(3, 5, 4, 6), (7, 2, 1, 9), (2, 8, 6, 3)], 4, [(5, 1), (2, 3), (0, 3)]), -1)

    def test_bought_at_the_most_and_one_more(self):
        self.assertEqual(barred([(1, 5, 1, 100)], 100, [(5, 0)]), -1)
        self.assertEqual(barred([(1, 5, 1, 100)], 100, [(6, 0)]), 0)
        self.assertEqual(barred([WIDE, (1, 5, 1, 100)], 100, [(1, 0), (5, 6)]), -1)
        self.assertEqual(barred([WIDE, (1, 5, 1, 100)], 100, [(1, 0), (6, 6)]), 1)

    def test_sold_at_the_most_and_one_more(self):
        days = [WIDE, (1, 100, 1, 5)]
        self.assertEqual(barred(days, 100, [(50, 0), (0, 5)]), -1)
        self.assertEqual(barred(days, 100, [(50, 0), (0, 6)]), 1)
        self.assertEqual(barred([(1, 100, 1, 5)], 100, [(9, 6)]), 0)

    def test_stored_at_0_and_one_below(self):
        self.assertEqual(barred([WIDE, WIDE], 100, [(4, 0), (0, 4)]), -1)
        self.assertEqual(barred([WIDE, WIDE], 100, [(4, 0), (0, 5)]), 1)
        self.assertEqual(barred([WIDE], 100, [(0, 1)]), 0)

    def test_stored_at_the_room_and_one_more(self):
        self.assertEqual(barred([WIDE, WIDE], 7, [(4, 0), (3, 0)]), -1)
        self.assertEqual(barred([WIDE, WIDE], 7, [(4, 0), (4, 0)]), 1)
        self.assertEqual(barred([WIDE], 7, [(8, 0)]), 0)

    def test_the_room_counts_behind_the_last_day_too(self):
        self.assertEqual(barred([WIDE] * 3, 2, [(2, 0), (0, 0), (1, 0)]), 2)

    def test_the_prices_bar_nothing(self):
        self.assertEqual(barred([(HUGE, 5, 0, 5), (0, 5, HUGE, 5)], 5, [(5, 0), (0, 5)]), -1)

    def test_more_sold_than_was_stored_ahead_with_enough_bought(self):
        self.assertEqual(barred([WIDE, WIDE], 3, [(2, 0), (7, 9)]), -1)
        self.assertEqual(barred([WIDE, WIDE], 3, [(2, 0), (7, 10)]), 1)
        self.assertEqual(barred([WIDE], 3, [(9, 9)]), -1)

    def test_more_bought_than_the_room_with_enough_sold(self):
        self.assertEqual(barred([WIDE], 3, [(50, 47)]), -1)
        self.assertEqual(barred([WIDE], 3, [(50, 46)]), 0)

    def test_a_room_of_0(self):
        self.assertEqual(barred([WIDE, WIDE], 0, [(6, 6), (1, 1)]), -1)
        self.assertEqual(barred([WIDE, WIDE], 0, [(6, 6), (2, 1)]), 1)
        self.assertEqual(barred([WIDE, WIDE], 0, [(1, 0), (0, 1)]), 0)

    def test_the_first_of_several_is_told(self):
        days = [WIDE, (1, 2, 1, 2), WIDE, WIDE]
        self.assertEqual(barred(days, 10, [(1, 0), (3, 0), (50, 0), (0, 90)]), 1)
        self.assertEqual(barred(days, 10, [(1, 0), (2, 0), (50, 0), (0, 90)]), 2)
        self.assertEqual(barred(days, 10, [(1, 0), (2, 0), (7, 0), (0, 90)]), 3)
        self.assertEqual(barred(days, 10, [(0, 1), (3, 0), (50, 0), (0, 90)]), 0)

    def test_a_later_day_does_not_mend_an_earlier_one(self):
        self.assertEqual(barred([WIDE] * 3, 5, [(1, 0), (0, 3), (9, 3)]), 1)
        self.assertEqual(barred([WIDE] * 3, 5, [(1, 0), (6, 0), (0, 6)]), 1)

    def test_numbers_of_any_size(self):
        day = (HUGE, HUGE, HUGE, HUGE)
        self.assertEqual(barred([day, day], HUGE, [(HUGE, 0), (HUGE, HUGE)]), -1)
        self.assertEqual(barred([day, day], HUGE - 1, [(HUGE - 1, 0), (HUGE, HUGE - 1)]), 1)
        self.assertEqual(barred([day, day], HUGE, [(HUGE, 0), (0, HUGE + 1)]), 1)
        self.assertEqual(barred([day, day], HUGE, [(HUGE + 1, 2), (0, 0)]), 0)

    def test_many_days(self):
        count = 50000
        days = [(1, 1, 1, 1)] * count
        dealing = [(1, 0)] * count
        self.assertEqual(barred(days, count, dealing), -1)
        self.assertEqual(barred(days, count - 1, dealing), count - 1)

    def test_small_dealings_all_of_them(self):
        days = [(5, 2, 7, 1), (4, 1, 9, 2)]
        deeds = list(itertools.product(range(4), range(4)))
        for room in range(4):
            for dealing in itertools.product(deeds, repeat=2):
                want = first_barred_day(days, room, dealing)
                self.assertEqual(barred(days, room, list(dealing)), want, (room, dealing))


if __name__ == "__main__":
    unittest.main()
