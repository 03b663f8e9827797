import itertools
import unittest

from grainstore.days import stored
from samples import HUGE

FREE_DAY = (0, 0, 0, 0)


class Stored(unittest.TestCase):
    def test_no_days(self):
        self.assertEqual(stored([], []), [])

    def test_one_day(self):
        self.assertEqual(stored([(3, 5, 4, 5)], [(5, 2)]), [3])

    def test_one_day_on_which_nothing_is_done(self):
        self.assertEqual(stored([(3, 5, 4, 5)], [(0, 0)]), [0])

    def test_that_days_own_deed_counts_and_so_do_all_ahead(self):
        days = [(3, 9, 4, 9)] * 5
        self.assertEqual(stored(days, [(4, 0), (2, 1), (0, 5), (7, 0), (1, 3)]), [4, 5, 0, 7, 5])

    def test_more_sold_than_was_stored_ahead_with_enough_bought(self):
        self.assertEqual(stored([(1, 9, 2, 9)] * 2, [(2, 0), (6, 7)]), [2, 1])

    def test_below_0_and_up_again(self):
        self.assertEqual(stored([(1, 9, 2, 9)] * 4, [(0, 3), (1, 0), (0, 2), (9, 0)]), [-3, -2, -4, 5])

    def test_neither_prices_nor_the_most_count(self):
        deals = [(8, 1), (0, 9), (5, 0)]
        for day in (FREE_DAY, (9, 0, 9, 0), (1, 100, 2, 100), (HUGE, HUGE, HUGE, HUGE)):
            self.assertEqual(stored([day] * 3, deals), [7, -2, 3])

    def test_numbers_of_any_size(self):
        days = [(HUGE, HUGE, HUGE, HUGE)] * 3
        dealing = [(HUGE, 1), (HUGE, 0), (0, 3 * HUGE)]
        self.assertEqual(stored(days, dealing), [HUGE - 1, 2 * HUGE - 1, -HUGE - 1])

    def test_many_days(self):
        count = 50000
        told = stored([FREE_DAY] * count, [(2, 1)] * count)
        # assertEqual would take very long to show where two long lists differ.
        self.assertTrue(told == list(range(1, count + 1)))

    def test_small_dealings_all_of_them(self):
        deeds = list(itertools.product(range(3), range(3)))
        for dealing in itertools.product(deeds, repeat=3):
            want = [sum(bought for bought, sold in dealing[:till]) - sum(sold for bought, sold in dealing[:till])
                    for till in (1, 2, 3)]
            self.assertEqual(stored([FREE_DAY] * 3, list(dealing)), want)

    def test_it_tells_a_list_of_whole_numbers(self):
        told = stored([FREE_DAY] * 2, [(1, 0), (0, 2)])
        self.assertIs(type(told), list)
        self.assertEqual([type(number) for number in told], [int, int])


if __name__ == "__main__":
    unittest.main()
