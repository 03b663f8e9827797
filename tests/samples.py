"""Values that several tests hand in: good ones, and ones that are none."""

HUGE = 10 ** 5000
GOOD_DAYS = [(3, 5, 4, 6), (7, 2, 1, 9), (2, 8, 6, 3)]
GOOD_DEALING = [(5, 1), (2, 3), (0, 3)]
GOOD_ROOM = 4


# What is no whole number, 0 or more.
def no_amounts():
    return [-1, -HUGE, True, False, "1", "", None, 1.0, 0.0, b"1", (1,), {}, object(), [1]]


# What is no list at all, though some of it could be walked or has the same length.
def no_lists(good):
    return [None, True, False, 0, len(good), "", "abc", 1.5, b"abc", tuple(good), {}, set(),
            dict(enumerate(good)), iter(good), range(len(good)), object(), list]


# What is no tuple of just so many amounts, though some of it comes near.
def no_tuples(good):
    wrong = [None, True, 0, "", "1" * len(good), list(good), {}, dict(enumerate(good)), set(good),
             iter(good), range(len(good)), b"1" * len(good), object(), tuple,
             (), good[:-1], good[1:], good + (0,), good + good, (good,)]
    for at in range(len(good)):
        for part in no_amounts():
            wrong.append(good[:at] + (part,) + good[at + 1:])
    return wrong


def with_one_wrong(good, wrong_parts):
    wrong = []
    for part in wrong_parts:
        for at in range(len(good)):
            wrong.append(good[:at] + [part] + good[at + 1:])
    return wrong


def no_days():
    wrong_parts = no_tuples(GOOD_DAYS[0])
    return no_lists(GOOD_DAYS) + [[part] for part in wrong_parts] + with_one_wrong(GOOD_DAYS, wrong_parts)


def no_dealings():
    uneven = [[], GOOD_DEALING[:1], GOOD_DEALING[:2], GOOD_DEALING + [(0, 0)], GOOD_DEALING * 2]
    return no_lists(GOOD_DEALING) + uneven + with_one_wrong(GOOD_DEALING, no_tuples(GOOD_DEALING[0]))
