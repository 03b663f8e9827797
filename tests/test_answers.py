import unittest

from grainstore.answers import Best
from grainstore.dealing import best
from many_days import HUGE, LONG, drawn_days, long_numbers, small_cases, store_days
from reckoned import is_best

DAYS = [(2, 10, 1, 10), (9, 10, 8, 7), (4, 3, 3, 2)]
ROOM = 5
DEALING = [(5, 0), (0, 5), (0, 0)]
WORTHS = [2, 8, 4]


def good():
    return Best(DEALING, WORTHS)


# Every dealing and worths that differ in one number by one.
def one_off(dealing, worths):
    for at, deed in enumerate(dealing):
        for other in ((deed[0] + 1, deed[1]), (deed[0] - 1, deed[1]), (deed[0], deed[1] + 1), (deed[0], deed[1] - 1)):
            yield (dealing[:at] + [other] + dealing[at + 1:], worths)
    for at, worth in enumerate(worths):
        for other in (worth + 1, worth - 1):
            yield (dealing, worths[:at] + [other] + worths[at + 1:])


class Fields(unittest.TestCase):
    def test_the_fields_are_copies(self):
        dealing = list(DEALING)
        worths = list(WORTHS)
        made = Best(dealing, worths)
        self.assertEqual((made.dealing, made.worths), (DEALING, WORTHS))
        self.assertIsNot(made.dealing, dealing)
        self.assertIsNot(made.worths, worths)
        dealing[0] = (9, 9)
        worths.clear()
        self.assertEqual((made.dealing, made.worths), (DEALING, WORTHS))
        made.dealing.append((1, 1))
        made.worths[0] = 77
        self.assertEqual((dealing, worths), ([(9, 9)] + DEALING[1:], []))

    def test_two_of_the_same_lists_share_nothing(self):
        first = good()
        other = good()
        first.dealing.clear()
        first.worths.clear()
        self.assertEqual((other.dealing, other.worths), (DEALING, WORTHS))

    def test_anything_of_the_kind_is_taken_as_a_field(self):
        for dealing, worths in (([], []), ([(-1, -5)], []), ([], [-3, 4]), ([(HUGE, 0)] * 3, [-HUGE])):
            made = Best(dealing, worths)
            self.assertEqual((made.dealing, made.worths), (dealing, worths))
            self.assertIsNot(made.dealing, dealing)
            self.assertIsNot(made.worths, worths)

    def test_the_arguments_by_name(self):
        made = Best(worths=WORTHS, dealing=DEALING)
        self.assertEqual((made.dealing, made.worths), (DEALING, WORTHS))


class Shows(unittest.TestCase):
    def test_true_itself_and_false_itself(self):
        self.assertIs(good().shows(DAYS, ROOM), True)
        self.assertIs(Best([], []).shows([], 0), True)
        self.assertIs(Best([], []).shows(DAYS, ROOM), False)
        self.assertIs(Best(DEALING, []).shows(DAYS, ROOM), False)
        self.assertIs(Best(DEALING, [0, 0, 0]).shows(DAYS, ROOM), False)
        self.assertIs(Best([(0, 0)] * 3, WORTHS).shows(DAYS, ROOM), False)
        self.assertIs(Best([(0, 1), (0, 0), (0, 0)], WORTHS).shows(DAYS, ROOM), False)

    def test_one_number_one_more_or_less(self):
        falses = 0
        for days, room in list(small_cases(600)) + [(store_days(1, 80, 0, 50, 9), 20),
                                                    (drawn_days(1, 20, long_numbers(1), long_numbers(2)), LONG)]:
            told = best(days, room)
            for dealing, worths in one_off(told.dealing, told.worths):
                want = is_best(days, room, dealing, worths)
                self.assertIs(Best(dealing, worths).shows(days, room), want, (days, room, dealing, worths))
                falses += not want
        self.assertGreater(falses, 1000)

    def test_each_one_off_of_the_good_one(self):
        still_so = []
        for dealing, worths in one_off(DEALING, WORTHS):
            if Best(dealing, worths).shows(DAYS, ROOM):
                still_so.append((dealing, worths))
        # Only the last worth is free: between the selling price and the buying price of its day.
        self.assertEqual(still_so, [(DEALING, [2, 8, 3])])

    def test_a_deed_or_a_worth_missing_or_too_many(self):
        for dealing in (DEALING[:2], DEALING[1:], DEALING + [(0, 0)], []):
            self.assertIs(Best(dealing, WORTHS).shows(DAYS, ROOM), False)
        for worths in (WORTHS[:2], WORTHS[1:], WORTHS + [0], WORTHS + [4], []):
            self.assertIs(Best(DEALING, worths).shows(DAYS, ROOM), False)
        self.assertIs(Best(DEALING[:2], WORTHS[:2]).shows(DAYS, ROOM), False)
        self.assertIs(Best(DEALING + [(0, 0)], WORTHS + [4]).shows(DAYS, ROOM), False)
        self.assertIs(Best([(0, 0)], []).shows([], ROOM), False)
        self.assertIs(Best([], [0]).shows([], ROOM), False)

    def test_a_number_below_0(self):
        self.assertIs(Best([(0, 0)], [0]).shows([(0, 0, 0, 0)], 0), True)
        self.assertIs(Best([(0, 0)], [-1]).shows([(0, 0, 0, 0)], 0), False)
        self.assertIs(Best([(0, 0)], [-HUGE]).shows([(0, 0, 0, 0)], 0), False)
        self.assertIs(Best([(-1, 0)], [0]).shows([(0, 0, 0, 0)], 0), False)
        self.assertIs(Best([(0, -1)], [0]).shows([(0, 0, 0, 0)], 0), False)
        self.assertIs(Best([(-1, -1)], [0]).shows([(0, 0, 0, 0)], 0), False)

    def test_a_dealing_that_cannot_be_though_the_sums_are_alike(self):
        free = (0, 5, 0, 5)
        for dealing, want in (([(5, 5)], True), ([(3, 0)], True), ([(6, 5)], False), ([(5, 6)], False),
                              ([(4, 0)], False), ([(0, 1)], False)):
            self.assertIs(Best(dealing, [0]).shows([free], 3), want, dealing)
        self.assertIs(Best([(2, 0), (2, 1), (0, 3)], [0] * 3).shows([free] * 3, 3), True)
        self.assertIs(Best([(2, 0), (2, 0), (0, 3)], [0] * 3).shows([free] * 3, 3), False)
        self.assertIs(Best([(2, 3), (2, 0), (0, 0)], [0] * 3).shows([free] * 3, 3), False)

    def test_a_gain_that_is_not_that_sum(self):
        self.assertIs(Best([(4, 0), (0, 4), (0, 0)], WORTHS).shows(DAYS, ROOM), False)
        self.assertIs(Best([(0, 0)] * 3, [0] * 3).shows(DAYS, ROOM), False)

    def test_the_room_and_the_days_asked_with_count(self):
        for room in (0, 1, 4, 6, 7, HUGE):
            self.assertIs(good().shows(DAYS, room), False)
        self.assertIs(good().shows(DAYS[:2], ROOM), False)
        self.assertIs(good().shows(DAYS + [(0, 0, 0, 0)], ROOM), False)
        self.assertIs(good().shows([], ROOM), False)
        self.assertIs(good().shows([(3, 10, 1, 10)] + DAYS[1:], ROOM), False)
        self.assertIs(good().shows([(2, 11, 1, 10)] + DAYS[1:], ROOM), True)

    def test_the_room_counts_by_a_rise_of_worth_alone(self):
        # The first day's worth is no rise, and a fall costs nothing.
        self.assertIs(Best([(0, 0)], [7]).shows([(7, 5, 7, 0)], 9), True)
        self.assertIs(Best([(0, 0), (0, 0)], [7, 3]).shows([(7, 5, 7, 0), (3, 5, 3, 0)], 9), True)
        self.assertIs(Best([(0, 0), (0, 0)], [3, 7]).shows([(3, 5, 3, 0), (7, 5, 7, 0)], 9), False)
        self.assertIs(Best([(0, 0), (0, 0)], [3, 7]).shows([(3, 5, 3, 0), (7, 5, 7, 0)], 0), True)

    def test_long_numbers(self):
        days = [(HUGE, HUGE, 0, 0), (0, 0, 2 * HUGE, HUGE)]
        dealing = [(LONG, 0), (0, LONG)]
        self.assertIs(Best(dealing, [HUGE, 2 * HUGE]).shows(days, LONG), True)
        self.assertIs(Best(dealing, [HUGE, 2 * HUGE + 1]).shows(days, LONG), False)
        self.assertIs(Best(dealing, [HUGE, 2 * HUGE]).shows(days, LONG + 1), False)


class ByTheFieldsAsTheyStandThen(unittest.TestCase):
    def shown(self, told, want):
        self.assertIs(told.shows(DAYS, ROOM), want)

    def test_a_number_changed_and_changed_back(self):
        for told in (good(), best(DAYS, ROOM)):
            self.shown(told, True)
            told.dealing[0] = (4, 0)
            self.shown(told, False)
            told.dealing[0] = (5, 0)
            self.shown(told, True)
            told.worths[1] = 9
            self.shown(told, False)
            told.worths[1] = 8
            self.shown(told, True)

    def test_appended_to(self):
        told = good()
        told.dealing.append((0, 0))
        self.shown(told, False)
        told.worths.append(4)
        self.shown(told, False)
        self.assertIs(told.shows(DAYS + [(4, 0, 4, 0)], ROOM), True)
        told.dealing.pop()
        self.shown(told, False)
        told.worths.pop()
        self.shown(told, True)

    def test_emptied(self):
        told = good()
        told.dealing.clear()
        self.shown(told, False)
        told.worths.clear()
        self.shown(told, False)
        self.assertIs(told.shows([], ROOM), True)

    def test_other_lists_in_the_place_of_the_fields(self):
        told = Best([], [])
        told.dealing = list(DEALING)
        self.shown(told, False)
        told.worths = list(WORTHS)
        self.shown(told, True)

    def test_asking_changes_no_field(self):
        for told in (good(), Best([(1, 0)], [4, 4]), Best([(-1, 3)] * 3, [-1] * 3)):
            ahead = (list(told.dealing), list(told.worths))
            lists_ahead = (told.dealing, told.worths)
            told.shows(DAYS, ROOM)
            self.assertEqual((told.dealing, told.worths), ahead)
            self.assertIs(told.dealing, lists_ahead[0])
            self.assertIs(told.worths, lists_ahead[1])


if __name__ == "__main__":
    unittest.main()
