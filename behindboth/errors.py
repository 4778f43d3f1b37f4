"""The errors: all stand under Refused, and none of the others under another one."""


class Refused(ValueError):
    """Something is refused; what tells of it."""

    def __init__(self, what):
        self.what = what
        # The name of the class, as a desk tells it.
        self.label = self.__class__.__name__


class BadBook(Refused):
    """No book: -1, or the index of the first part that is no scheme."""


class BadSource(Refused):
    """The thing that is no number of a source."""


class BadGroup(Refused):
    """No group: -1; 1 for two sides with a source in common."""


class BadData(Refused):
    """No data: -1, or a pair of a source and the index of a row, or -1 for its entry."""


class BadTags(Refused):
    """No tags: -1, or the first source without a row of the tag told; 0 for unlike lengths."""


class TooMany(Refused):
    """More than so many."""


class BadPlan(Refused):
    """No plan: -1."""


class Twice(Refused):
    """What stands there already."""


class Lacking(Refused):
    """The least source that does not stand there."""


class BadRule(Refused):
    """No rule: -1, or the index of the first row that is none."""


class BadPairing(Refused):
    """No pairing: -1, or the number of the first fork whose entry is none."""


class Apart(Refused):
    """The least source of the second piece of what does not hang together."""


class BadPaper(Refused):
    """No such paper: 0."""


class BadRing(Refused):
    """No ring: 0."""


class BadOrder(Refused):
    """No order of sources: -1."""


class BadNumber(Refused):
    """The number that is out of range."""


class NotRight(Refused):
    """A plan that is not right: 0."""


class BadColumn(Refused):
    """The thing that is no column of the source."""


class BadLots(Refused):
    """No lots: -1, or the index of the first entry that is none."""


class BadRows(Refused):
    """No shown rows: -1, or the index of the first entry that is none."""


class Covered(Refused):
    """The source that is covered."""


class BadRow(Refused):
    """No row of the source: -1."""


class HasRow(Refused):
    """The tag of the row that is there already."""


class Full(Refused):
    """The source that has as many rows as it may."""


class NoRow(Refused):
    """A pair of a source and a tag that are no row."""


class NothingToUndo(Refused):
    """Nothing to undo: 0."""


class NothingToRedo(Refused):
    """Nothing to do again: 0."""


class BadFork(Refused):
    """The thing that is no number of a fork."""


class BadQuestion(Refused):
    """No question: -1, or the index of its first wrong part."""


class BadText(Refused):
    """No such text: -1, or the place that is wrong."""


class NoName(Refused):
    """The place of a name that the house does not have."""


class BadHouse(Refused):
    """No house: -1, or the index of the first wrong source."""
