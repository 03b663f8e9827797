import unittest

from grainstore.dealing import best, changed, most_gain
from grainstore.errors import BadDay, BadDays, BadRoom
from samples import GOOD_DAYS, GOOD_ROOM, HUGE, no_amounts, no_days, no_tuples

GOOD_DAY = (2, 6, 9, 4)


def ask_changed(days, room):
    return changed(days, room, 0, GOOD_DAY)


ASKED = [("best", best), ("most_gain", most_gain), ("changed", ask_changed)]

WRONG_DAYS = [None, (), tuple(GOOD_DAYS), [None], [(1, 1, 1)], [[1, 1, 1, 1]], GOOD_DAYS[:2] + [(1, 1, 1, -HUGE)],
              GOOD_DAYS + [(1, 1, True, 1)]]
WRONG_ROOMS = [None, -1, True, False, 2.0, "3"]
WRONG_COUNTS = [None, -1, True, False, 1.0, "1", 3, HUGE]
WRONG_DAY = [None, (1, 1, 1), [1, 1, 1, 1], (1, 1, 1, -1), (True, 1, 1, 1)]


class Refuses(unittest.TestCase):
    def refuses(self, refusal, call, *handed_in):
        with self.assertRaises(refusal) as caught:
            call(*handed_in)
        self.assertIs(type(caught.exception), refusal)


class EachByItself(Refuses):
    def test_the_good_samples_are_taken(self):
        self.assertIs(best(GOOD_DAYS, GOOD_ROOM).shows(GOOD_DAYS, GOOD_ROOM), True)
        self.assertEqual(most_gain(GOOD_DAYS, GOOD_ROOM), 5 * 1 + 3 * 4)
        self.assertEqual(changed(GOOD_DAYS, GOOD_ROOM, 0, GOOD_DAYS[0]), 0)

    def test_what_is_no_days(self):
        for name, ask in ASKED:
            for at, wrong in enumerate(no_days()):
                with self.subTest(ask=name, at=at):
                    self.refuses(BadDays, ask, wrong, GOOD_ROOM)

    def test_what_is_no_room(self):
        for name, ask in ASKED:
            for at, wrong in enumerate(no_amounts()):
                with self.subTest(ask=name, at=at):
                    self.refuses(BadRoom, ask, GOOD_DAYS, wrong)
                    self.refuses(BadRoom, ask, [], wrong)

    def test_what_is_no_days_count(self):
        beyond = [3, 4, HUGE, -3, GOOD_DAYS[0]]
        for at, wrong in enumerate(no_amounts() + beyond):
            with self.subTest(at=at):
                self.refuses(BadDay, changed, GOOD_DAYS, GOOD_ROOM, wrong, GOOD_DAY)
                self.refuses(BadDay, changed, GOOD_DAYS[:1], GOOD_ROOM, wrong, GOOD_DAY)

    def test_true_and_false_are_no_days_count_though_there_are_two_days(self):
        for wrong in (True, False):
            self.refuses(BadDay, changed, GOOD_DAYS[:2], GOOD_ROOM, wrong, GOOD_DAY)

    def test_the_last_count_and_one_more(self):
        for till in (1, 2, 3):
            self.assertIs(type(changed(GOOD_DAYS[:till], GOOD_ROOM, till - 1, GOOD_DAY)), int)
            self.refuses(BadDay, changed, GOOD_DAYS[:till], GOOD_ROOM, till, GOOD_DAY)

    def test_where_there_are_no_days_no_count_is_taken(self):
        for at in (0, 1, -1, HUGE, None, True, False):
            self.refuses(BadDay, changed, [], GOOD_ROOM, at, GOOD_DAY)

    def test_another_day_that_is_none(self):
        for at, wrong in enumerate(no_tuples(GOOD_DAY)):
            for count in (0, 1, 2):
                with self.subTest(at=at, count=count):
                    self.refuses(BadDays, changed, GOOD_DAYS, GOOD_ROOM, count, wrong)


class WhichGoesFirst(Refuses):
    def test_no_days_go_ahead_of_no_room(self):
        for name, ask in ASKED:
            for days in WRONG_DAYS:
                for room in WRONG_ROOMS:
                    with self.subTest(ask=name):
                        self.refuses(BadDays, ask, days, room)

    def test_no_days_go_ahead_of_all_else(self):
        for days in WRONG_DAYS:
            for count in WRONG_COUNTS:
                self.refuses(BadDays, changed, days, GOOD_ROOM, count, GOOD_DAY)
                self.refuses(BadDays, changed, days, None, count, None)

    def test_no_room_goes_ahead_of_no_count_and_of_no_day(self):
        for room in WRONG_ROOMS:
            for count in WRONG_COUNTS:
                self.refuses(BadRoom, changed, GOOD_DAYS, room, count, GOOD_DAY)
                self.refuses(BadRoom, changed, GOOD_DAYS, room, count, None)
                self.refuses(BadRoom, changed, [], room, count, None)
            for day in WRONG_DAY:
                self.refuses(BadRoom, changed, GOOD_DAYS, room, 0, day)

    def test_no_count_goes_ahead_of_no_day(self):
        for count in WRONG_COUNTS:
            for day in WRONG_DAY:
                self.refuses(BadDay, changed, GOOD_DAYS, GOOD_ROOM, count, day)
                self.refuses(BadDay, changed, [], GOOD_ROOM, count, day)


if __name__ == "__main__":
    unittest.main()
