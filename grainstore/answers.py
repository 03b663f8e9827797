"""What is told of days and a room: a dealing, and the worths that show that none gains more."""

from grainstore.checks import are_worths, is_dealing
from grainstore.days import barred, gained
from grainstore.worths import bound_by


class Best:
    def __init__(self, dealing, worths):
        self.dealing = list(dealing)
        self.worths = list(worths)

    def shows(self, days, room):
        if not is_dealing(days, self.dealing) or not are_worths(days, self.worths):
            return False
        if barred(days, room, self.dealing) != -1:
            return False
        return gained(days, self.dealing) == bound_by(days, room, self.worths)
