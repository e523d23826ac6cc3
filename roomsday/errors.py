"""All refusals: DayError, its two families, and the classes that are raised."""

from roomsday.kinds import copied


class DayError(ValueError):
    """Any refusal."""


class ToldError(DayError):
    """What was handed in is none of what it should be."""


class AskedError(DayError):
    """What was asked for can't be done as things stand."""


class NoHouse(ToldError):
    """It is no house."""


class NoCases(ToldError):
    """They are no cases of the house."""


class NoPlan(ToldError):
    """It is no plan of the cases."""


class NoCount(ToldError):
    """It is no number of cases that may run over."""


class NoMinutes(ToldError):
    """It is no number of minutes that may be told there."""


class NoLot(ToldError):
    """It is no lot of deeds."""


class NoText(ToldError):
    """It is not so written; line is the first wrong one, or None."""

    def __init__(self, line=None):
        ToldError.__init__(self, "this is not written as it should be")
        self.line = line


class NoRow(ToldError):
    """It is no row of a desk."""


class NoCase(AskedError):
    """There is no case of this name."""

    def __init__(self, name):
        AskedError.__init__(self, "there is no case of this name")
        # The name may be anything, a list of the asker's too: only a copy is kept.
        self.name = copied(name)


class NotNow(AskedError):
    """The case is there, but this can't be done with it now."""

    def __init__(self, name):
        AskedError.__init__(self, "this can't be done with the case now")
        self.name = copied(name)


class TooMany(AskedError):
    """There are too many cases for this."""


class Crowded(AskedError):
    """There is no room in which the case begins early enough."""


class NothingLeft(AskedError):
    """There is nothing left to take back."""
