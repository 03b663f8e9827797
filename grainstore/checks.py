"""What days, a room, a dealing, a day's count and worths are, and the refusal of what is none.

No refusal shows the value that it refuses: a number of many thousand digits
can't be turned into a text, and that would hide the refusal itself.
"""

from grainstore.errors import BadDay, BadDays, BadDealing, BadRoom


def is_amount(value):
    # Python counts True and False among the whole numbers; the program doesn't.
    return isinstance(value, int) and not isinstance(value, bool) and value >= 0


def is_tuple_of_amounts(value, count):
    return isinstance(value, tuple) and len(value) == count and all([is_amount(part) for part in value])


def is_day(value):
    return is_tuple_of_amounts(value, 4)


def is_deed(value):
    return is_tuple_of_amounts(value, 2)


def is_dealing(days, value):
    return isinstance(value, list) and len(value) == len(days) and all([is_deed(deed) for deed in value])


def are_worths(days, value):
    return isinstance(value, list) and len(value) == len(days) and all([is_amount(worth) for worth in value])


def check_days(days):
    if not isinstance(days, list):
        raise BadDays("days are a list")
    for at, day in enumerate(days):
        if not is_day(day):
            raise BadDays(f"at {at} stands no day: a day is a tuple of four whole numbers, 0 or more")


def check_day(day):
    if not is_day(day):
        raise BadDays("a day is a tuple of four whole numbers, 0 or more")


def check_room(room):
    if not is_amount(room):
        raise BadRoom("a room is a whole number, 0 or more")


# The days are checked ahead of this, and of the next one too, so that their refusal goes first.
def check_count(days, at):
    if not is_amount(at) or at >= len(days):
        raise BadDay("a day's count is a whole number, 0 or more and less than there are days")


def check_dealing(days, dealing):
    if not isinstance(dealing, list):
        raise BadDealing("a dealing is a list")
    if len(dealing) != len(days):
        raise BadDealing("a dealing has one deed for each day")
    for at, deed in enumerate(dealing):
        if not is_deed(deed):
            raise BadDealing(f"at {at} stands no deed: a deed is a tuple of two whole numbers, 0 or more")
