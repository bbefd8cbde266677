"""Sheets counted into quires and reams."""

from twinmoulds.errors import NoCount, NoNumber, TooMany
from twinmoulds.kinds import is_below

QUIRE = 24
QUIRES = 20
REAM = 480
REAMS = 1000
MOST = 479999
COUNTS = 20


def counted(sheets):
    """Tell the count of so many sheets."""
    if not is_below(sheets, MOST + 1):
        raise NoNumber("sheets are a whole number from 0 to 479999")
    return count_of(sheets)


def sheets_in(count):
    """Tell how many sheets a count is."""
    if not is_count(count):
        raise NoCount("a count is a tuple of reams, quires and sheets")
    return sheets_of(count)


def summed(counts):
    """Tell the sum of a list of counts as a count."""
    if not are_counts(counts):
        raise NoCount("counts are a list of at most twenty counts")
    return count_of(sum([sheets_of(count) for count in counts]))


def is_count(thing):
    """Tell whether a thing is a count: a tuple (reams, quires, sheets)."""
    if not isinstance(thing, tuple) or len(thing) != 3:
        return False
    reams, quires, sheets = thing
    return is_below(reams, REAMS) and is_below(quires, QUIRES) and is_below(sheets, QUIRE)


def are_counts(thing):
    """Tell whether a thing is a list of at most twenty counts."""
    return isinstance(thing, list) and len(thing) <= COUNTS and all([is_count(count) for count in thing])


def sheets_of(count):
    """Tell how many sheets reams, quires and sheets are together."""
    reams, quires, sheets = count
    return reams * REAM + quires * QUIRE + sheets


def count_of(many):
    """Tell the count of so many sheets, and refuse more than are counted."""
    if many > MOST:
        raise TooMany(many)
    return (many // REAM, many // QUIRE % QUIRES, many % QUIRE)
