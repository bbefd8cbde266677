"""Marks, sheets and pages, the faults of laid pages, and books."""

from twinmoulds.errors import NoBook, NoMarks, NoPage, NoSheet
from twinmoulds.kinds import DAYS, MARKS, MOULDS, is_day, is_mark, is_mould, is_rising

PAGES = 24
HAS = 0
LACKS = 1


def are_marks(thing):
    """Tell whether a thing is marks: a rising tuple of marks, perhaps ()."""
    return isinstance(thing, tuple) and all([is_mark(mark) for mark in thing]) and is_rising(thing)


def is_sheet(thing):
    """Tell whether a thing is a sheet: a tuple (has, lacks) of marks, none in both."""
    if not isinstance(thing, tuple) or len(thing) != 2:
        return False
    has, lacks = thing
    return are_marks(has) and are_marks(lacks) and are_apart(has, lacks)


def are_apart(marks, others):
    """Tell whether no mark stands in both."""
    return not any([mark in others for mark in marks])


def has_all(marks, others):
    """Tell whether marks have all of the others."""
    return all([mark in marks for mark in others])


def are_laid_marks(thing, most):
    """Tell whether a thing is a tuple of marks, one of them at least, and no more than most."""
    return isinstance(thing, tuple) and 1 <= len(thing) <= most and all([are_marks(marks) for marks in thing])


def is_page(thing):
    """Tell whether a thing is a page: a sheet made, or a mark mended, with a mould on a day."""
    if not isinstance(thing, tuple) or len(thing) != 4:
        return False
    word, mould, day, what = thing
    if not is_mould(mould) or not is_day(day):
        return False
    if word == "made":
        return is_sheet(what)
    return word == "mended" and is_mark(what)


def are_laid(thing):
    """Tell whether a thing is laid pages: a rising tuple of at most 24 pages."""
    # That all are pages is asked ahead of the order: other things may not compare.
    return (isinstance(thing, tuple) and len(thing) <= PAGES
            and all([is_page(page) for page in thing]) and is_rising(thing))


def faults(laid):
    """Tell the rising list of the faults (mould, mark, day, later) of laid pages."""
    if not are_laid(laid):
        raise NoBook("laid pages are a rising tuple of at most 24 pages")
    return faults_of(laid)


def is_book(thing):
    """Tell whether a thing is a book: laid pages without faults."""
    return are_laid(thing) and not faults_of(thing)


def faults_of(pages):
    """Tell the rising list of the faults of pages, however many and in whatever order they are."""
    return [(mould, mark, day, later)
            for mould in range(MOULDS)
            for mark in range(MARKS)
            for day, later in clashes(pages, mould, mark)]


def clashes(pages, mould, mark):
    """Tell the rising list of the days (day, later) of a mould's faults with one mark."""
    lacked = days_seen(pages, mould, mark, LACKS)
    mended = days_mended(pages, mould, mark)
    return [(day, later)
            for day in sorted(set(days_seen(pages, mould, mark, HAS)))
            for later in range(day, DAYS)
            if (later in lacked or (later == day and day in mended)) and not is_any_behind(mended, day, later)]


def is_any_behind(days, day, later):
    """Tell whether any of some days lies behind day and no further than later."""
    return any([day < other <= later for other in days])


def days_seen(pages, mould, mark, half):
    """Tell the days on which a sheet of the mould was made that has the mark in this half."""
    return [page[2] for page in pages if page[0] == "made" and page[1] == mould and mark in page[3][half]]


def days_mended(pages, mould, mark):
    """Tell the days on which the mark of the mould is mended."""
    return [page[2] for page in pages if page[0] == "mended" and page[1] == mould and page[3] == mark]


def need_marks(thing):
    """Refuse what are no marks."""
    if not are_marks(thing):
        raise NoMarks("marks are a rising tuple of whole numbers from 0 to 7")


def need_sheet(thing):
    """Refuse what is no sheet."""
    if not is_sheet(thing):
        raise NoSheet("a sheet is a tuple of two marks, no mark in both")


def need_page(thing):
    """Refuse what is no page."""
    if not is_page(thing):
        raise NoPage("a page is a tuple of made or mended, a mould, a day, and a sheet or a mark")


def need_book(thing):
    """Refuse what is no book."""
    if not is_book(thing):
        raise NoBook("a book is laid pages without faults")
