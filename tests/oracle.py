"""The document's words, read again and apart from the program, to hold its answers against."""

DAYS = range(31)
MARKS = range(8)
MOULDS = range(4)


def is_mended(pages, mould, mark, day):
    return ("mended", mould, day, mark) in pages


def shows(pages, mould, mark, day):
    return any(page[:3] == ("made", mould, day) and mark in page[3][0] for page in pages)


def lacks(pages, mould, mark, day):
    return any(page[:3] == ("made", mould, day) and mark in page[3][1] for page in pages)


def is_fault(pages, mould, mark, day, later):
    """Whether the mark, which a sheet of day shows, makes a fault with later."""
    if day > later:
        return False
    if any(is_mended(pages, mould, mark, between) for between in range(day + 1, later + 1)):
        return False
    return lacks(pages, mould, mark, later) or (later == day and is_mended(pages, mould, mark, day))


def faults(pages):
    days = sorted({page[2] for page in pages})
    return [(mould, mark, day, later) for mould in MOULDS for mark in MARKS for day in days
            if shows(pages, mould, mark, day)
            for later in days if is_fault(pages, mould, mark, day, later)]


def states(pages, mould, mark, day):
    """Whether the mark may be there (True) or missing (False), by the pages of this day alone."""
    allowed = {True, False}
    if is_mended(pages, mould, mark, day) or lacks(pages, mould, mark, day):
        allowed.discard(True)
    if shows(pages, mould, mark, day):
        allowed.discard(False)
    return allowed


def may_follow(pages, mould, mark, day, now, after):
    return after or not now or is_mended(pages, mould, mark, day + 1)


def states_in_lives(pages, mould, mark):
    """For each day what the mark is in any life: what is reached from day 0 and leads on to day 30."""
    reached = [states(pages, mould, mark, 0)]
    for day in range(30):
        reached.append({after for after in states(pages, mould, mark, day + 1)
                        if any(may_follow(pages, mould, mark, day, now, after) for now in reached[day])})
    leads = [reached[30]]
    for day in reversed(range(30)):
        leads.insert(0, {now for now in reached[day]
                         if any(may_follow(pages, mould, mark, day, now, after) for after in leads[0])})
    return leads


def have_lives(pages):
    return all(states_in_lives(pages, mould, mark)[0] for mould in MOULDS for mark in MARKS)


def sure_sheets(book, mould):
    by_mark = [states_in_lives(book, mould, mark) for mark in MARKS]
    return [(tuple(mark for mark in MARKS if by_mark[mark][day] == {True}),
             tuple(mark for mark in MARKS if by_mark[mark][day] == {False})) for day in DAYS]


def is_life(book, mould, life):
    """Whether 31 marks are a life, by the words of the point on lives."""
    for page in book:
        if page[1] != mould:
            continue
        there = set(life[page[2]])
        if page[0] == "mended" and page[3] in there:
            return False
        if page[0] == "made" and (not set(page[3][0]) <= there or set(page[3][1]) & there):
            return False
    return all(is_mended(book, mould, mark, day + 1)
               for day in range(30) for mark in set(life[day]) - set(life[day + 1]))


def may_be(book, mould, day, sheet):
    return faults(set(book) | {("made", mould, day, sheet)}) == []


def places_of(book, sheet):
    fits = {(mould, day) for mould in MOULDS for day in DAYS if may_be(book, mould, day, sheet)}
    return sorted((mould, first, last) for mould in MOULDS for first in DAYS for last in DAYS
                  if first <= last and all((mould, day) in fits for day in range(first, last + 1))
                  and (mould, first - 1) not in fits and (mould, last + 1) not in fits)
