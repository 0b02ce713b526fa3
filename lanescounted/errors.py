"""The errors of the package. All stand directly under LaneError, so that each can be caught alone."""


class LaneError(ValueError):
    """Any error of the package."""


class BadKind(LaneError):
    """The kind of a table is neither "rest" nor "ranges" [4]."""


class BadCount(LaneError):
    """The count of a table is no integer in its limits [4], [5]."""


class BadMark(LaneError):
    """A mark is no integer in its limits, or is not below the size [4]."""


class BadSize(LaneError):
    """A size is no integer in its limits [4]."""


class BadCounts(LaneError):
    """The counts of the editions are none [6]."""


class BadHouse(LaneError):
    """The object is no house [8]."""


class BadCase(LaneError):
    """The object is no case [8]."""


class BadStep(LaneError):
    """An entry of a run is no step that can be taken then [15]."""

    def __init__(self, place):
        LaneError.__init__(self, f"the entry {place} is no step that can be taken then")
        self.place = place


class BadQuestion(LaneError):
    """The object is no question [16]."""


class BadKey(LaneError):
    """The number of a key does not fit [17], [18]."""


class BadPair(LaneError):
    """The numbers of two letters do not fit [17]."""


class BadRenaming(LaneError):
    """The lanes or the senders are no renaming [18]."""


class BadSpot(LaneError):
    """A spot, or a lot of them, is none [24]."""


class TooMany(LaneError):
    """There would be more words, spots or senders than there may be [24], [25], [26], [30]."""


class NotEnough(LaneError):
    """A question can be shown with all waits of the lot [25]."""


class BadScheme(LaneError):
    """The object is no scheme [27]."""


class NotWithin(LaneError):
    """The scheme of the case is not within the other one [27]."""


class BadLog(LaneError):
    """The object is no log of the case [28]."""


class BadLane(LaneError):
    """The house has no such lane [31]."""


class NothingToUndo(LaneError):
    """Nothing was done that could be taken back [30]."""


class BadText(LaneError):
    """A text is not of its form, or writes nothing that there is [33]."""

    def __init__(self, line):
        LaneError.__init__(self, f"the line {line} is not as it has to be")
        self.line = line


class BadCommand(LaneError):
    """A row is none that the desk knows [35]."""
