"""The best dealing of days and a room, its gain, and what another day in one's place would change."""

from grainstore.answers import Best
from grainstore.checks import check_count, check_day, check_days, check_room
from grainstore.days import gained
from grainstore.deeds import dealing_by
from grainstore.worths import best_worths


def best(days, room):
    check_days(days)
    check_room(room)
    worths = best_worths(days, room)
    return Best(dealing_by(days, room, worths), worths)


def most_gain(days, room):
    return gained(days, best(days, room).dealing)


def changed(days, room, at, day):
    check_days(days)
    check_room(room)
    check_count(days, at)
    check_day(day)
    other_days = days[:at] + [day] + days[at + 1:]
    return most_gain(other_days, room) - most_gain(days, room)
