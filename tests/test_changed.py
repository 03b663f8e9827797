import random
import unittest

from grainstore.dealing import changed, most_gain
from many_days import HUGE, LONG, drawn_days, long_numbers, small_cases, store_days
from reckoned import most_of_all_dealings

DAYS = [(2, 10, 1, 10), (9, 10, 8, 7), (4, 3, 3, 2)]


def with_day(days, at, day):
    other = list(days)
    other[at] = day
    return other


class Changed(unittest.TestCase):
    def test_told_ones(self):
        self.assertEqual(changed(DAYS, 5, 0, (1, 10, 1, 10)), 5)
        self.assertEqual(changed(DAYS, 5, 0, (2, 3, 1, 10)), -12)
        self.assertEqual(changed(DAYS, 5, 0, (0, 0, 0, 0)), -30)
        self.assertEqual(changed(DAYS, 5, 1, (9, 10, 9, 7)), 5)
        self.assertEqual(changed(DAYS, 5, 2, (4, 3, 10, 2)), 12)
        self.assertEqual(changed(DAYS, 5, 2, (0, 0, 0, 0)), 0)

    def test_the_only_day(self):
        self.assertEqual(changed([(3, 5, 8, 4)], 0, 0, (3, 5, 9, 4)), 4)
        self.assertEqual(changed([(3, 5, 8, 4)], 0, 0, (9, 5, 8, 4)), -20)
        self.assertEqual(changed([(0, 0, 0, 0)], HUGE, 0, (0, HUGE, HUGE, HUGE)), HUGE * HUGE)

    def test_a_whole_number_is_told(self):
        self.assertIs(type(changed(DAYS, 5, 0, DAYS[0])), int)

    def test_every_day_against_all_dealings(self):
        chance = random.Random(5)
        for days, room in small_cases(150):
            for at in range(len(days)):
                day = tuple(chance.randint(0, most) for most in (6, 2, 6, 2))
                want = most_of_all_dealings(with_day(days, at, day), room) - most_of_all_dealings(days, room)
                self.assertEqual(changed(days, room, at, day), want, (days, room, at, day))

    def test_it_is_the_difference_of_the_most_gains(self):
        for days, others, room in (
                (store_days(1, 80, 0, 99, 9), store_days(2, 80, 0, 99, 9), 20),
                (drawn_days(3, 80, long_numbers(3), long_numbers(4)), drawn_days(5, 80, [0, LONG], [0, HUGE]), LONG),
                (drawn_days(6, 30, [5, 6], [0, 1]), drawn_days(7, 30, [5, 6, HUGE], [0, 1, 9]), HUGE)):
            signs = set()
            for at, day in enumerate(others):
                told = changed(days, room, at, day)
                self.assertTrue(told == most_gain(with_day(days, at, day), room) - most_gain(days, room))
                signs.add((told > 0) - (told < 0))
            self.assertLessEqual({1, -1}, signs)

    def test_0_by_the_same_day(self):
        for days in (DAYS, store_days(8, 80, LONG, 9 * LONG, LONG)):
            for room in (0, 7, HUGE):
                for at, day in enumerate(days):
                    self.assertEqual(changed(days, room, at, day), 0)

    def test_the_way_back_is_as_much_less(self):
        other = (1, 4, 6, 2)
        for at, day in enumerate(DAYS):
            told = changed(DAYS, 5, at, other)
            self.assertEqual(changed(with_day(DAYS, at, other), 5, at, day), -told)

    def test_never_below_0_by_a_better_day(self):
        chance = random.Random(9)
        for seed in range(30):
            days = drawn_days(seed, 12, [1, 2, 5, 9], [0, 1, 3])
            for at, day in enumerate(days):
                better = (chance.randint(0, day[0]), day[1] + chance.randint(0, 2),
                          day[2] + chance.randint(0, 5), day[3] + chance.randint(0, 2))
                for room in (0, 2, 100):
                    self.assertGreaterEqual(changed(days, room, at, better), 0)
                    self.assertLessEqual(changed(with_day(days, at, better), room, at, day), 0)

    def test_the_first_day_and_the_last(self):
        days = [(1, 5, 0, 0), (3, 0, 2, 0), (9, 0, 8, 4)]
        self.assertEqual(changed(days, 5, 0, (2, 5, 0, 0)), -4)
        self.assertEqual(changed(days, 5, 2, (9, 0, 8, 5)), 7)
        self.assertEqual(changed(days, 5, 1, (0, 5, 0, 0)), 4)


if __name__ == "__main__":
    unittest.main()
