import unittest

from grainstore.dealing import best, most_gain
from many_days import HUGE, LONG, cases, drawn_days, small_cases, store_days
from reckoned import gain_day_by_day, gain_of, most_of_all_dealings


class MostGain(unittest.TestCase):
    def test_no_days(self):
        for room in (0, 1, HUGE):
            self.assertEqual(most_gain([], room), 0)
            self.assertIs(type(most_gain([], room)), int)

    def test_told_ones(self):
        days = [(2, 10, 1, 10), (9, 10, 8, 7)]
        self.assertEqual([most_gain(days, room) for room in (0, 1, 5, 7, 8, HUGE)], [0, 6, 30, 42, 42, 42])
        self.assertEqual(most_gain([(3, 5, 8, 4)], 0), 20)
        self.assertEqual(most_gain([(3, 5, 8, 4), (8, 5, 3, 4)], 10), 20)

    def test_what_is_left_in_the_store_gains_nothing(self):
        self.assertEqual(most_gain([(0, 9, 0, 0), (1, 9, 0, 9)], 9), 0)

    def test_nothing_to_be_bought_or_nothing_to_be_sold(self):
        self.assertEqual(most_gain([(1, 0, 9, 5)] * 6, 9), 0)
        self.assertEqual(most_gain([(1, 5, 9, 0)] * 6, 9), 0)

    def test_it_is_the_gain_of_the_best_dealing_and_never_below_0(self):
        for name, days, room in cases():
            with self.subTest(name, room_digits=room.bit_length() * 3 // 10):
                told = most_gain(days, room)
                self.assertIs(type(told), int)
                self.assertTrue(told == gain_of(days, best(days, room).dealing))
                self.assertTrue(told >= 0)

    def test_it_is_the_most_of_all_dealings(self):
        for days, room in small_cases(400):
            self.assertEqual(most_gain(days, room), most_of_all_dealings(days, room), (days, room))

    def test_by_a_room_of_0_each_day_gains_by_itself(self):
        for name, days, room in cases():
            with self.subTest(name):
                self.assertTrue(most_gain(days, 0) == gain_day_by_day(days))


class ByMoreRoom(unittest.TestCase):
    def never_less_and_by_less_and_less(self, days, rooms):
        gains = [most_gain(days, room) for room in rooms]
        steps = [more - less for less, more in zip(gains, gains[1:])]
        self.assertTrue(all(step >= 0 for step in steps))
        self.assertTrue(all(step >= next_step for step, next_step in zip(steps, steps[1:])))
        return steps

    def test_a_bushel_more_each_time(self):
        for seed in range(40):
            self.never_less_and_by_less_and_less(store_days(seed, 12, 0, 30, 4), range(40))
            self.never_less_and_by_less_and_less(drawn_days(seed, 12, [1, 2, 5, 9], [0, 1, 3]), range(40))

    def test_long_numbers(self):
        for seed in range(10):
            days = store_days(seed, 80, LONG, 9 * LONG, LONG)
            rooms = [step * (LONG // 20 + 1) for step in range(100)]
            steps = self.never_less_and_by_less_and_less(days, rooms)
            self.assertTrue(steps[0] > 0)

    def test_it_does_grow_where_there_is_something_to_store(self):
        days = [(1, 3, 0, 0), (2, 3, 0, 0), (9, 0, 7, 4)]
        self.assertEqual([most_gain(days, room) for room in range(7)], [0, 6, 12, 18, 23, 23, 23])


if __name__ == "__main__":
    unittest.main()
