import itertools
import unittest

from grainstore.days import gained
from samples import HUGE


class Gained(unittest.TestCase):
    def test_no_days(self):
        self.assertEqual(gained([], []), 0)
        self.assertIs(type(gained([], [])), int)

    def test_nothing_done_gains_nothing(self):
        self.assertEqual(gained([(3, 5, 4, 6), (7, 2, 1, 9)], [(0, 0), (0, 0)]), 0)

    def test_one_day(self):
        self.assertEqual(gained([(3, 50, 11, 60)], [(5, 2)]), 2 * 11 - 5 * 3)

    def test_each_day_goes_by_its_own_prices(self):
        days = [(2, 9, 100, 9), (1000, 9, 30, 9), (7, 9, 11, 9)]
        dealing = [(4, 1), (2, 3), (5, 6)]
        self.assertEqual(gained(days, dealing), 100 - 8 + 90 - 2000 + 66 - 35)

    def test_below_0(self):
        self.assertEqual(gained([(8, 9, 1, 9), (8, 9, 1, 9)], [(3, 0), (0, 3)]), -21)

    def test_what_is_stored_behind_the_last_day_gains_nothing(self):
        self.assertEqual(gained([(5, 9, 7, 9), (5, 9, 7, 9)], [(4, 0), (0, 1)]), 7 - 20)
        self.assertEqual(gained([(5, 9, 7, 9)], [(4, 0)]), -20)

    def test_what_was_sold_without_being_there_gains_its_price(self):
        self.assertEqual(gained([(5, 9, 7, 9)], [(0, 4)]), 28)

    def test_more_than_the_most_gains_by_its_prices_too(self):
        self.assertEqual(gained([(2, 0, 3, 0)], [(10, 20)]), 40)
        self.assertEqual(gained([(2, 1, 3, 1), (4, 1, 9, 1)], [(100, 0), (0, 100)]), 700)

    def test_prices_of_0(self):
        self.assertEqual(gained([(0, 9, 0, 9), (0, 9, 5, 9)], [(9, 9), (9, 2)]), 10)

    def test_numbers_of_any_size(self):
        days = [(HUGE, 1, HUGE + 1, 1), (1, HUGE, HUGE, HUGE)]
        dealing = [(HUGE, 1), (HUGE, HUGE)]
        self.assertEqual(gained(days, dealing), HUGE + 1 - HUGE * HUGE + HUGE * HUGE - HUGE)

    def test_many_days(self):
        count = 50000
        self.assertEqual(gained([(3, 1, 5, 1)] * count, [(1, 1)] * count), 2 * count)

    def test_small_dealings_all_of_them(self):
        days = [(1, 2, 10, 2), (100, 2, 1000, 2)]
        deeds = list(itertools.product(range(4), range(4)))
        for first, other in itertools.product(deeds, repeat=2):
            want = 10 * first[1] + 1000 * other[1] - first[0] - 100 * other[0]
            self.assertEqual(gained(days, [first, other]), want)


if __name__ == "__main__":
    unittest.main()
