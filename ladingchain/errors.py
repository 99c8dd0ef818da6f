"""The refusals, each a class of its own.

All of them stand straight under LadingError, so whoever catches one of them
never catches another one with it.
"""


class LadingError(ValueError):
    pass


class BadForm(LadingError):
    pass


class DayFalls(LadingError):
    pass


class NoSuch(LadingError):
    pass


class NameTaken(LadingError):
    pass


class Spent(LadingError):
    pass


class Broken(LadingError):
    # The place goes along as a field, for an error's words are not promised.
    def __init__(self, place):
        self.place = place


class NotYours(LadingError):
    pass


class NotOrder(LadingError):
    pass


class Stopped(LadingError):
    pass


class WrongTons(LadingError):
    pass


class OtherParcel(LadingError):
    pass


class NotOwed(LadingError):
    pass


class StopStands(LadingError):
    pass


class NoStop(LadingError):
    pass


class Full(LadingError):
    pass


class Struck(LadingError):
    pass


class DayOver(LadingError):
    pass


class NamedLater(LadingError):
    pass
