import signal
import unittest

from grainstore.answers import Best
from grainstore.dealing import best
from many_days import HUGE, LONG, ROOMS, cases, drawn_days, long_numbers, small_cases, store_days
from reckoned import can_be, gain_of, is_best, is_deed, is_number, sum_of_worths


class BestOfDays(unittest.TestCase):
    def holds(self, days, room, told):
        self.assertIs(type(told), Best)
        self.assertIs(type(told.dealing), list)
        self.assertIs(type(told.worths), list)
        self.assertEqual(len(told.dealing), len(days))
        self.assertEqual(len(told.worths), len(days))
        self.assertTrue(all(is_deed(deed) for deed in told.dealing))
        self.assertTrue(all(is_number(worth) for worth in told.worths))
        self.assertTrue(can_be(days, room, told.dealing))
        # assertEqual would try to show the numbers, and some are too long for that.
        self.assertTrue(gain_of(days, told.dealing) == sum_of_worths(days, room, told.worths))
        self.assertIs(told.shows(days, room), True)

    def test_days_of_many_sorts(self):
        for name, days, room in cases():
            with self.subTest(name, room_digits=room.bit_length() * 3 // 10):
                self.holds(days, room, best(days, room))

    def test_few_days_and_few_bushels(self):
        for days, room in small_cases(3000):
            self.assertTrue(is_best(days, room, *fields_of(best(days, room))), (days, room))

    def test_no_days(self):
        for room in ROOMS:
            self.assertEqual(fields_of(best([], room)), ([], []))

    def test_one_day_that_gains(self):
        told = best([(3, 5, 8, 4)], 2)
        self.assertEqual(gain_of([(3, 5, 8, 4)], told.dealing), 20)
        self.assertEqual(told.worths, [3])

    def test_one_day_that_does_not_gain(self):
        self.assertEqual(gain_of([(8, 5, 3, 4)], best([(8, 5, 3, 4)], 9).dealing), 0)

    def test_bought_on_one_day_and_sold_on_the_next(self):
        days = [(2, 10, 1, 10), (9, 10, 8, 7)]
        told = best(days, 5)
        self.assertEqual(told.dealing, [(5, 0), (0, 5)])
        self.assertEqual(told.worths, [2, 8])
        told = best(days, 100)
        self.assertEqual(told.dealing, [(7, 0), (0, 7)])
        self.assertEqual(told.worths, [2, 2])

    def test_a_full_store_and_an_empty_one_between(self):
        days = [(1, 9, 0, 0), (9, 0, 5, 9), (2, 9, 1, 0), (9, 0, 7, 9)]
        told = best(days, 4)
        self.assertEqual(told.dealing, [(4, 0), (0, 4), (4, 0), (0, 4)])
        self.assertEqual(told.worths, [1, 5, 2, 7])

    def test_more_is_sold_on_a_day_than_was_stored_ahead(self):
        days = [(1, 9, 0, 0), (2, 9, 6, 9)]
        told = best(days, 4)
        self.assertEqual(told.dealing, [(4, 0), (5, 9)])
        self.assertEqual(told.worths, [1, 2])

    def test_worths_are_0_or_more_where_all_is_given_away(self):
        days = [(0, 9, 0, 9)] * 3
        self.holds(days, 4, best(days, 4))
        self.assertEqual(best(days, 4).worths, [0, 0, 0])


class InAShortTime(unittest.TestCase):
    # What hangs on the size of such numbers would never end, so it is stopped.
    def setUp(self):
        self.handler_ahead = signal.signal(signal.SIGALRM, self.too_long)
        signal.alarm(20)

    def tearDown(self):
        signal.alarm(0)
        signal.signal(signal.SIGALRM, self.handler_ahead)

    def too_long(self, number, frame):
        raise AssertionError("best takes too long")

    def test_eighty_days_with_long_numbers(self):
        for seed in range(5):
            for room in (0, 1, 10 ** 9, LONG, 7 * LONG + 3, 10 ** 40, HUGE):
                days = drawn_days(seed, 80, long_numbers(seed), long_numbers(seed + 50))
                self.assertTrue(is_best(days, room, *fields_of(best(days, room))))
                days = store_days(seed, 80, LONG, 9 * LONG, 10 ** 30)
                self.assertTrue(is_best(days, room, *fields_of(best(days, room))))

    def test_eighty_days_with_few_bushels_and_any_room(self):
        for room in ROOMS:
            days = store_days(3, 80, LONG, 9 * LONG, 5)
            self.assertTrue(is_best(days, room, *fields_of(best(days, room))))

    def test_some_thousand_days(self):
        for room in (0, 100, 10 ** 40):
            days = store_days(4, 3000, 0, LONG, LONG)
            self.assertTrue(is_best(days, room, *fields_of(best(days, room))))


def fields_of(told):
    return (told.dealing, told.worths)


if __name__ == "__main__":
    unittest.main()
