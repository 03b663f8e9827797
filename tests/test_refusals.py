import unittest

from grainstore.days import barred, gained, stored
from grainstore.errors import BadDays, BadDealing, BadRoom
from samples import GOOD_DAYS, GOOD_DEALING, GOOD_ROOM, HUGE, no_amounts, no_dealings, no_days


def ask_barred(days, dealing):
    return barred(days, GOOD_ROOM, dealing)


ASKED = [("stored", stored), ("gained", gained), ("barred", ask_barred)]


class Refusals(unittest.TestCase):
    def refuses(self, refusal, call, *handed_in):
        with self.assertRaises(refusal) as caught:
            call(*handed_in)
        self.assertIs(type(caught.exception), refusal)

    def test_the_good_samples_are_taken(self):
        self.assertEqual(stored(GOOD_DAYS, GOOD_DEALING), [4, 3, 0])
        self.assertEqual(gained(GOOD_DAYS, GOOD_DEALING), 4 - 15 + 3 - 14 + 18)
        self.assertEqual(barred(GOOD_DAYS, GOOD_ROOM, GOOD_DEALING), -1)

    def test_what_is_no_days(self):
        for name, ask in ASKED:
            for at, wrong in enumerate(no_days()):
                with self.subTest(ask=name, at=at):
                    self.refuses(BadDays, ask, wrong, GOOD_DEALING)

    def test_what_is_no_day_alone_with_a_deed_for_it(self):
        for name, ask in ASKED:
            for at, wrong in enumerate(no_amounts()):
                for place in range(4):
                    day = [1, 1, 1, 1]
                    day[place] = wrong
                    with self.subTest(ask=name, at=at, place=place):
                        self.refuses(BadDays, ask, [tuple(day)], [(0, 0)])

    def test_what_is_no_dealing(self):
        for name, ask in ASKED:
            for at, wrong in enumerate(no_dealings()):
                with self.subTest(ask=name, at=at):
                    self.refuses(BadDealing, ask, GOOD_DAYS, wrong)

    def test_a_dealing_for_no_days_has_no_deeds(self):
        for name, ask in ASKED:
            for wrong in ([(0, 0)], [None], [()], None, (), {}, "", 0, False):
                with self.subTest(ask=name, wrong=wrong):
                    self.refuses(BadDealing, ask, [], wrong)

    def test_what_is_no_room(self):
        for at, wrong in enumerate(no_amounts()):
            with self.subTest(at=at):
                self.refuses(BadRoom, barred, GOOD_DAYS, wrong, GOOD_DEALING)
                self.refuses(BadRoom, barred, [], wrong, [])

    def test_no_days_go_ahead_of_no_dealing(self):
        for name, ask in ASKED:
            for wrong_days in (None, [None], [(1, 1, 1)], GOOD_DAYS[:2] + [(1, 1, 1, -HUGE)]):
                for wrong_dealing in (None, [], [None], [(1,)], [(1, -1)] * 3):
                    with self.subTest(ask=name):
                        self.refuses(BadDays, ask, wrong_days, wrong_dealing)

    def test_no_days_go_ahead_of_no_room(self):
        for wrong_room in (None, -1, True):
            self.refuses(BadDays, barred, None, wrong_room, GOOD_DEALING)
            self.refuses(BadDays, barred, [(1, 1, 1, True)], wrong_room, None)

    def test_no_room_goes_ahead_of_no_dealing(self):
        for wrong_room in (None, -1, True):
            for wrong_dealing in (None, [], [None] * 3, [(1, -1)] * 3):
                self.refuses(BadRoom, barred, GOOD_DAYS, wrong_room, wrong_dealing)

    def test_a_refusal_goes_ahead_of_a_bar_on_an_earlier_day(self):
        self.refuses(BadDealing, barred, GOOD_DAYS, GOOD_ROOM, [(0, 99), (0, 0), (0, -1)])

    def test_the_bounds_of_what_is_taken(self):
        zero = [(0, 0, 0, 0)]
        self.assertEqual(stored(zero, [(0, 0)]), [0])
        self.assertEqual(gained(zero, [(0, 0)]), 0)
        self.assertEqual(barred(zero, 0, [(0, 0)]), -1)


if __name__ == "__main__":
    unittest.main()
