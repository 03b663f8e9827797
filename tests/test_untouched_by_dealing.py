import unittest

from grainstore.answers import Best
from grainstore.dealing import best, changed, most_gain
from grainstore.errors import GrainError
from samples import GOOD_DAYS, GOOD_ROOM

OTHER_DAY = (1, 7, 8, 7)


def fields_of(told):
    return (list(told.dealing), list(told.worths))


class Untouched(unittest.TestCase):
    def setUp(self):
        self.days = list(GOOD_DAYS)

    def same_as_ahead(self):
        self.assertEqual(len(self.days), len(GOOD_DAYS))
        for day, day_ahead in zip(self.days, GOOD_DAYS):
            self.assertIs(day, day_ahead)

    def test_what_is_handed_in_is_the_same_behind_each_call(self):
        for room in (0, GOOD_ROOM, 10 ** 30):
            told = best(self.days, room)
            self.same_as_ahead()
            told.shows(self.days, room)
            self.same_as_ahead()
            most_gain(self.days, room)
            self.same_as_ahead()
            for at in range(3):
                changed(self.days, room, at, OTHER_DAY)
                self.same_as_ahead()

    def test_what_is_handed_in_is_the_same_behind_a_refusal(self):
        for call in (lambda: best(self.days, -1),
                     lambda: most_gain(self.days, None),
                     lambda: changed(self.days, -1, 0, OTHER_DAY),
                     lambda: changed(self.days, 1, 3, OTHER_DAY),
                     lambda: changed(self.days, 1, 0, (1, 1, 1))):
            with self.assertRaises(GrainError):
                call()
            self.same_as_ahead()

    def test_a_hand_made_answer_leaves_its_lists_alone(self):
        dealing = [(0, 0)] * 3
        worths = [1, 2, 3]
        Best(dealing, worths).shows(self.days, GOOD_ROOM)
        self.assertEqual((dealing, worths), ([(0, 0)] * 3, [1, 2, 3]))
        self.same_as_ahead()

    def test_nothing_handed_in_is_kept(self):
        told = best(self.days, GOOD_ROOM)
        fields = fields_of(told)
        gain = most_gain(self.days, GOOD_ROOM)
        self.days[0] = OTHER_DAY
        self.assertEqual(fields_of(told), fields)
        self.assertEqual(most_gain(self.days, GOOD_ROOM) - gain, changed(GOOD_DAYS, GOOD_ROOM, 0, OTHER_DAY))
        self.days.clear()
        self.assertEqual(fields_of(told), fields)
        self.assertEqual(fields_of(best(self.days, GOOD_ROOM)), ([], []))
        self.assertEqual(most_gain(self.days, GOOD_ROOM), 0)


class NewLists(unittest.TestCase):
    def test_each_call_tells_new_ones(self):
        for days in (list(GOOD_DAYS), GOOD_DAYS[:1], []):
            first = best(days, GOOD_ROOM)
            other = best(days, GOOD_ROOM)
            lists = [first.dealing, first.worths, other.dealing, other.worths, days]
            self.assertEqual(len(set(id(one) for one in lists)), 5)
            self.assertIsNot(first, other)

    def test_they_are_the_askers_own(self):
        for days in (list(GOOD_DAYS), []):
            want = fields_of(best(days, GOOD_ROOM))
            gain = most_gain(days, GOOD_ROOM)
            first = best(days, GOOD_ROOM)
            other = best(days, GOOD_ROOM)
            first.dealing.append((99, 99))
            first.worths.append(99)
            first.dealing[0] = (98, 98)
            first.worths[0] = 98
            self.assertEqual(fields_of(other), want)
            self.assertEqual(fields_of(best(days, GOOD_ROOM)), want)
            self.assertEqual(most_gain(days, GOOD_ROOM), gain)
            self.assertEqual(days, GOOD_DAYS[:len(days)])


if __name__ == "__main__":
    unittest.main()
