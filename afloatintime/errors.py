"""All errors of the package: YardError, and directly below it the others."""


class YardError(ValueError):
    """What all errors of the package derive from; it keeps its only argument."""

    def __init__(self, value):
        self.value = value


class BadWorks(YardError):
    """What should be WORKS is not."""


class BadNeeds(YardError):
    """What should be NEEDS of the WORKS is not."""


class BadRing(YardError):
    """A ring of NEEDS has back 0 in all of them, so that a work waits for itself."""


class BadYard(YardError):
    """A line, told by its number, cannot stand in the text of a YARD."""


class NoYard(YardError):
    """What should be a YARD is none."""


class NoWork(YardError):
    """What should be the NAME of a work is none."""


class BadShip(YardError):
    """What should be the number of a ship is none that is let."""


class BadDay(YardError):
    """What should be a day is none that is let."""


class BadDelays(YardError):
    """What should be DELAYS of the YARD is not."""


class BadChanges(YardError):
    """What should be CHANGES of the YARD is not."""


class BadNumber(YardError):
    """What should be a number of things is none that is let."""


class BadNames(YardError):
    """What should be NAMES of works of both yards is not."""


class NoLog(YardError):
    """What should be a Log is none."""


class Taken(YardError):
    """What is told anew is told already."""


class Full(YardError):
    """There is no room for one more."""


class NothingToUndo(YardError):
    """No deed stands that could be taken back."""


class NothingToRedo(YardError):
    """No deed was taken back that could be done again."""


class NoBlock(YardError):
    """There is no trial to which this could belong."""


class BadJournal(YardError):
    """A line, told by its number, cannot stand in a journal."""


class BadTask(YardError):
    """What should be a line of a known form is none."""


class TooLong(YardError):
    """The table of the YARD is too long."""


class BadPace(YardError):
    """What should be a pace is none that is let."""


class BadWishes(YardError):
    """What should be WISHES is not."""


class BadDocks(YardError):
    """What should be DOCKS of the yard is not."""


class BadPrices(YardError):
    """What should be PRICES of the yard is not."""


class BadNeed(YardError):
    """What should be one more NEED of the WORKS is not."""


class BadDays(YardError):
    """What should be a number of days is none that is let."""


class BadShips(YardError):
    """What should be a tuple of ships is not."""


class NoNeed(YardError):
    """What should be one of the NEEDS of the YARD is none."""


class BadBought(YardError):
    """What should be BOUGHT by the prices is not."""


class BadFlow(YardError):
    """What should be a FLOW of the yard is not."""


class BadPart(YardError):
    """What should be a part of a PLAN is not."""


class BadSpot(YardError):
    """What should be a SPOT of the yard is not."""


class Same(YardError):
    """Two things that have to be unlike are the same."""


class NotTold(YardError):
    """What should be told no more was not told."""


class BadRhythm(YardError):
    """What should be a RHYTHM of the yard is not."""


class TooFast(YardError):
    """The RHYTHM is not slow enough for the yard."""


class BadMore(YardError):
    """What should be MORE of the DOCKS is not."""


class BadTrail(YardError):
    """What should be a TRAIL of the yard is not."""
