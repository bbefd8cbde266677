"""The refusals of twinmoulds, each a class of its own straight under MouldError."""


class MouldError(ValueError):
    """Any refusal."""


class NoMarks(MouldError):
    """What should be marks is none."""


class NoSheet(MouldError):
    """What should be a sheet is none."""


class NoPage(MouldError):
    """What should be a page is none."""


class NoBook(MouldError):
    """What should be a book, or laid pages, is none."""


class NoMould(MouldError):
    """What should be a mould is none."""


class NoDay(MouldError):
    """What should be a day is none."""


class NoSort(MouldError):
    """What should be a sort is none."""


class NoNumber(MouldError):
    """What should be another number isn't as told."""


class NoSheets(MouldError):
    """What should be one to three sheets is none."""


class NoRun(MouldError):
    """What should be a run is none."""


class NoLaying(MouldError):
    """What should be a laying of a run is none."""


class NoHeap(MouldError):
    """What should be a heap is none."""


class NoCount(MouldError):
    """What should be a count, or counts, is none."""


class Clash(MouldError):
    """A page doesn't go with the book that is kept."""


class NoDeed(MouldError):
    """There is no deed left to undo."""


class NoText(MouldError):
    """What should be the text of a book is none."""


class NoRow(MouldError):
    """What should be a row for the desk is none."""


class TooMany(MouldError):
    """There would be more sheets than are counted."""

    def __init__(self, many):
        """Keep how many sheets there would be."""
        self.many = many


class Lacking(MouldError):
    """There are fewer sheets than are to be taken."""

    def __init__(self, many):
        """Keep how many sheets are lacking."""
        self.many = many
