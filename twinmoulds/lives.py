"""The lives that a book leaves to a mould, and the moulds and days that it leaves to a sheet."""

from twinmoulds.kinds import DAYS, MARKS, MOULDS, need_day, need_mould
from twinmoulds.pages import HAS, LACKS, are_apart, are_marks, days_mended, days_seen, need_book, need_sheet


def surely(book, mould, day):
    """Tell the sheet of the marks that the mould has on the day in each of its lives, and in none."""
    need_book(book)
    need_mould(mould)
    need_day(day)
    return sure_sheets(book, mould)[day]


def is_life(book, mould, thing):
    """Tell whether a thing is a life of the mould by the book."""
    need_book(book)
    need_mould(mould)
    if not isinstance(thing, tuple) or len(thing) != DAYS:
        return False
    return (all([are_marks(marks) for marks in thing])
            and all([goes_with(book, mould, mark, days_with(thing, mark)) for mark in range(MARKS)]))


def least_life(book, mould):
    """Tell the life of the mould that has the fewest marks on each day."""
    need_book(book)
    need_mould(mould)
    return tuple([has for has, lacks in sure_sheets(book, mould)])


def most_life(book, mould):
    """Tell the life of the mould that has the most marks on each day."""
    need_book(book)
    need_mould(mould)
    return tuple([tuple([mark for mark in range(MARKS) if mark not in lacks])
                  for has, lacks in sure_sheets(book, mould)])


def may_be(book, mould, day, sheet):
    """Tell whether the sheet may be of the mould and the day by the book."""
    need_book(book)
    need_mould(mould)
    need_day(day)
    need_sheet(sheet)
    return agree(sheet, sure_sheets(book, mould)[day])


def places_of(book, sheet):
    """Tell the rising list of the longest stretches (mould, first, last) of which the sheet may be."""
    need_book(book)
    need_sheet(sheet)
    return [(mould, first, last)
            for mould in range(MOULDS)
            for first, last in stretches([agree(sheet, sure) for sure in sure_sheets(book, mould)])]


def sure_sheets(book, mould):
    """Tell for each day the sheet of the marks that the mould surely has and surely lacks."""
    present = [days_present(book, mould, mark) for mark in range(MARKS)]
    absent = [days_absent(book, mould, mark) for mark in range(MARKS)]
    return [(marks_on(present, day), marks_on(absent, day)) for day in range(DAYS)]


def marks_on(days_by_mark, day):
    """Tell the marks among whose days a day is."""
    return tuple([mark for mark in range(MARKS) if day in days_by_mark[mark]])


def days_present(book, mould, mark):
    """Tell the days on which the mould has the mark in each of its lives."""
    shown = days_seen(book, mould, mark, HAS)
    mended = days_mended(book, mould, mark)
    present = []
    stays = False
    for day in range(DAYS):
        stays = day in shown or (stays and day not in mended)
        if stays:
            present.append(day)
    return present


def days_absent(book, mould, mark):
    """Tell the days on which the mould has the mark in none of its lives."""
    lacked = days_seen(book, mould, mark, LACKS)
    mended = days_mended(book, mould, mark)
    absent = []
    barred = False
    for day in reversed(range(DAYS)):
        if barred or day in lacked or day in mended:
            absent.append(day)
        # Ahead of a mending the mark may have been there, whatever is seen from the mending on.
        barred = (barred or day in lacked) and day not in mended
    return absent


def days_with(life, mark):
    """Tell the days on which a life has the mark."""
    return [day for day in range(DAYS) if mark in life[day]]


def goes_with(book, mould, mark, days):
    """Tell whether the mould may have the mark on just these days."""
    mended = days_mended(book, mould, mark)
    lacked = days_seen(book, mould, mark, LACKS)
    shown = days_seen(book, mould, mark, HAS)
    return (all([day in days for day in shown])
            and not any([day in lacked or day in mended for day in days])
            and all([day + 1 in days or day + 1 in mended or day + 1 == DAYS for day in days]))


def agree(sheet, sure):
    """Tell whether a sheet goes with what is sure of a mould and a day."""
    return are_apart(sheet[HAS], sure[LACKS]) and are_apart(sheet[LACKS], sure[HAS])


def stretches(holds):
    """Tell the longest stretches (first, last) of places that hold True."""
    told = []
    for at in range(len(holds)):
        if holds[at] and at > 0 and holds[at - 1]:
            told[-1] = (told[-1][0], at)
        elif holds[at]:
            told.append((at, at))
    return told
