"""The days on which one mould can have made a few sheets, and the narrowest stretch of them."""

from twinmoulds.errors import NoSheets
from twinmoulds.kinds import DAYS, is_day, need_mould
from twinmoulds.lives import agree, sure_sheets
from twinmoulds.pages import HAS, LACKS, days_mended, faults_of, is_any_behind, is_sheet, need_book

SHEETS = 3


def is_dating(book, mould, sheets, thing):
    """Tell whether a thing is a dating of the sheets for the mould by the book."""
    need_asked(book, mould, sheets)
    if not are_days(thing) or len(thing) != len(sheets):
        return False
    pages = tuple([("made", mould, day, sheet) for day, sheet in zip(thing, sheets)])
    return faults_of(book + pages) == []


def days_of(book, mould, sheets):
    """Tell for each of the sheets the rising list of the days that it has in any dating."""
    need_asked(book, mould, sheets)
    told = datings(book, mould, sheets)
    return [sorted({dating[at] for dating in told}) for at in range(len(sheets))]


def narrowest(book, mould, sheets):
    """Tell the narrowest dating of the sheets, None where there is none."""
    need_asked(book, mould, sheets)
    return min(datings(book, mould, sheets), key=by_width, default=None)


def by_width(dating):
    """Tell by what datings are put in order: their width, their least day, their days."""
    return (max(dating) - min(dating), min(dating), dating)


def are_days(thing):
    """Tell whether a thing is a tuple of days."""
    return isinstance(thing, tuple) and all([is_day(day) for day in thing])


def are_sheets(thing):
    """Tell whether a thing is a tuple of one to three sheets."""
    return isinstance(thing, tuple) and 1 <= len(thing) <= SHEETS and all([is_sheet(sheet) for sheet in thing])


def need_asked(book, mould, sheets):
    """Refuse what is no book, then what is no mould, then what are no sheets."""
    need_book(book)
    need_mould(mould)
    if not are_sheets(sheets):
        raise NoSheets("sheets are a tuple of one to three sheets")


def datings(book, mould, sheets):
    """Tell the rising list of all datings of the sheets."""
    sure = sure_sheets(book, mould)
    told = [()]
    for at in range(len(sheets)):
        days = [day for day in range(DAYS) if agree(sheets[at], sure[day])]
        # A fault is of two pages: so a sheet is held against each one ahead by itself.
        tables = [days_together(book, mould, sheets[ahead], sheets[at]) for ahead in range(at)]
        told = [dating + (day,) for dating in told for day in days if is_free(tables, dating, day)]
    return told


def is_free(tables, dating, day):
    """Tell whether a day goes with each day of a dating, by the table that stands for it."""
    return all([table[other][day] for table, other in zip(tables, dating)])


def days_together(book, mould, sheet, other):
    """Tell for each day of a sheet, and each day of another one, whether no fault comes of these two."""
    onward = mendings_between(book, mould, sheet, other)
    backward = mendings_between(book, mould, other, sheet)
    return [[is_clear(onward, day, later) and is_clear(backward, later, day) for later in range(DAYS)]
            for day in range(DAYS)]


def mendings_between(book, mould, sheet, other):
    """Tell for each mark that a sheet shows and another one lacks the days on which it is mended."""
    return [days_mended(book, mould, mark) for mark in sheet[HAS] if mark in other[LACKS]]


def is_clear(mendings, day, later):
    """Tell whether each of the marks, if later isn't ahead of day, is mended between."""
    return later < day or all([is_any_behind(mended, day, later) for mended in mendings])
