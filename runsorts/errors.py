"""The refusals, each under SortError alone."""


class SortError(ValueError):
    """Any refusal."""


class BadKinds(SortError):
    """The kinds of the columns are none."""


class BadOrder(SortError):
    """An order is none for the kinds."""


class BadRows(SortError):
    """A list of rows has one that is none, or one too many, at a place."""

    def __init__(self, place):
        SortError.__init__(self, f"no row that may stand at place {place}")
        self.place = place


class BadRuns(SortError):
    """A list of runs has one that is none, or one too many, of a number."""

    def __init__(self, number):
        SortError.__init__(self, f"no run that may have number {number}")
        self.number = number


class BadRoom(SortError):
    """The sizes of the room, the pages or the merges don't go."""


class BadLengths(SortError):
    """The lengths of runs are none."""


class BadPlan(SortError):
    """A plan is none for the runs."""


class BadPaper(SortError):
    """A paper isn't good for the runs."""


class BadCount(SortError):
    """More is asked for, or handed in, than there may be."""


class BadBlock(SortError):
    """There is no such block, or a block can't take this."""


class Stopped(SortError):
    """The disk has stopped."""


class Shut(SortError):
    """No more rows may come."""


class NotYet(SortError):
    """It is too early to tell or to do this."""


class Empty(SortError):
    """No row is there."""


class BadText(SortError):
    """A text has a part or a word that can't stand at its place."""

    def __init__(self, place):
        SortError.__init__(self, f"nothing that may stand at place {place}")
        self.place = place
