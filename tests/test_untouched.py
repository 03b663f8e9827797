import unittest

from grainstore.days import barred, gained, stored
from grainstore.errors import GrainError
from samples import GOOD_DAYS, GOOD_DEALING, GOOD_ROOM, no_dealings


class Untouched(unittest.TestCase):
    def setUp(self):
        self.days = list(GOOD_DAYS)
        self.dealing = list(GOOD_DEALING)

    def same_as_ahead(self):
        self.assertEqual(self.days, GOOD_DAYS)
        self.assertEqual(self.dealing, GOOD_DEALING)

    def test_what_is_handed_in_is_the_same_behind_each_call(self):
        for call in (lambda: stored(self.days, self.dealing),
                     lambda: gained(self.days, self.dealing),
                     lambda: barred(self.days, GOOD_ROOM, self.dealing),
                     lambda: barred(self.days, 0, self.dealing)):
            call()
            self.same_as_ahead()

    def test_what_is_handed_in_is_the_same_behind_a_refusal(self):
        for wrong in no_dealings():
            if not isinstance(wrong, list):
                continue
            ahead = list(wrong)
            for call in (lambda: stored(self.days, wrong),
                         lambda: gained(self.days, wrong),
                         lambda: barred(self.days, GOOD_ROOM, wrong)):
                with self.assertRaises(GrainError):
                    call()
                self.assertEqual(len(wrong), len(ahead))
                for part, part_ahead in zip(wrong, ahead):
                    self.assertIs(part, part_ahead)
                self.same_as_ahead()

    def test_the_list_of_what_is_stored_is_new_at_each_call(self):
        first = stored(self.days, self.dealing)
        other = stored(self.days, self.dealing)
        self.assertIsNot(first, other)
        first.append(99)
        first[0] = 98
        self.assertEqual(other, [4, 3, 0])
        self.assertEqual(stored(self.days, self.dealing), [4, 3, 0])
        self.same_as_ahead()

    def test_the_empty_list_is_new_too(self):
        days = []
        dealing = []
        first = stored(days, dealing)
        self.assertIsNot(first, days)
        self.assertIsNot(first, dealing)
        first.append(1)
        self.assertEqual((days, dealing, stored(days, dealing)), ([], [], []))

    def test_nothing_handed_in_is_kept(self):
        stored(self.days, self.dealing)
        gained(self.days, self.dealing)
        barred(self.days, GOOD_ROOM, self.dealing)
        self.days[0] = (10, 5, 100, 6)
        self.dealing[0] = (5, 5)
        self.assertEqual(stored(self.days, self.dealing), [0, -1, -4])
        self.assertEqual(gained(self.days, self.dealing), 500 - 50 + 3 - 14 + 18)
        self.assertEqual(barred(self.days, GOOD_ROOM, self.dealing), 1)


if __name__ == "__main__":
    unittest.main()
