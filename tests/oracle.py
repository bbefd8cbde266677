"""The document's words, read again and apart from the program, to hold its answers against."""

import itertools

DAYS = range(31)
MARKS = range(8)
MOULDS = range(4)


def is_mended(pages, mould, mark, day):
    return ("mended", mould, day, mark) in pages


def shows(pages, mould, mark, day):
    return any(page[:3] == ("made", mould, day) and mark in page[3][0] for page in pages)


def lacks(pages, mould, mark, day):
    return any(page[:3] == ("made", mould, day) and mark in page[3][1] for page in pages)


def is_fault(pages, mould, mark, day, later):
    """Whether the mark, which a sheet of day shows, makes a fault with later."""
    if day > later:
        return False
    if any(is_mended(pages, mould, mark, between) for between in range(day + 1, later + 1)):
        return False
    return lacks(pages, mould, mark, later) or (later == day and is_mended(pages, mould, mark, day))


def faults(pages):
    days = sorted({page[2] for page in pages})
    return [(mould, mark, day, later) for mould in MOULDS for mark in MARKS for day in days
            if shows(pages, mould, mark, day)
            for later in days if is_fault(pages, mould, mark, day, later)]


def states(pages, mould, mark, day):
    """Whether the mark may be there (True) or missing (False), by the pages of this day alone."""
    allowed = {True, False}
    if is_mended(pages, mould, mark, day) or lacks(pages, mould, mark, day):
        allowed.discard(True)
    if shows(pages, mould, mark, day):
        allowed.discard(False)
    return allowed


def may_follow(pages, mould, mark, day, now, after):
    return after or not now or is_mended(pages, mould, mark, day + 1)


def states_in_lives(pages, mould, mark):
    """For each day what the mark is in any life: what is reached from day 0 and leads on to day 30."""
    reached = [states(pages, mould, mark, 0)]
    for day in range(30):
        reached.append({after for after in states(pages, mould, mark, day + 1)
                        if any(may_follow(pages, mould, mark, day, now, after) for now in reached[day])})
    leads = [reached[30]]
    for day in reversed(range(30)):
        leads.insert(0, {now for now in reached[day]
                         if any(may_follow(pages, mould, mark, day, now, after) for after in leads[0])})
    return leads


def have_lives(pages):
    return all(states_in_lives(pages, mould, mark)[0] for mould in MOULDS for mark in MARKS)


def sure_sheets(book, mould):
    by_mark = [states_in_lives(book, mould, mark) for mark in MARKS]
    return [(tuple(mark for mark in MARKS if by_mark[mark][day] == {True}),
             tuple(mark for mark in MARKS if by_mark[mark][day] == {False})) for day in DAYS]


def is_life(book, mould, life):
    """Whether 31 marks are a life, by the words of the point on lives."""
    for page in book:
        if page[1] != mould:
            continue
        there = set(life[page[2]])
        if page[0] == "mended" and page[3] in there:
            return False
        if page[0] == "made" and (not set(page[3][0]) <= there or set(page[3][1]) & there):
            return False
    return all(is_mended(book, mould, mark, day + 1)
               for day in range(30) for mark in set(life[day]) - set(life[day + 1]))


def may_be(book, mould, day, sheet):
    return faults(set(book) | {("made", mould, day, sheet)}) == []


def places_of(book, sheet):
    fits = {(mould, day) for mould in MOULDS for day in DAYS if may_be(book, mould, day, sheet)}
    return sorted((mould, first, last) for mould in MOULDS for first in DAYS for last in DAYS
                  if first <= last and all((mould, day) in fits for day in range(first, last + 1))
                  and (mould, first - 1) not in fits and (mould, last + 1) not in fits)


def has_life(book, mould, sheets, days):
    """Whether the mould has a life with the book's pages and these sheets, by the one with the fewest marks."""
    shown, lacked, gone = [[0] * 31 for turn in range(3)]
    dated = [("made", mould, day, sheet) for day, sheet in zip(days, sheets)]
    for word, whose, day, what in list(book) + dated:
        if whose == mould and word == "mended":
            gone[day] |= 1 << what
        elif whose == mould:
            shown[day] |= sum(1 << mark for mark in what[0])
            lacked[day] |= sum(1 << mark for mark in what[1])
    there = 0
    for day in DAYS:
        there = there & ~gone[day] | shown[day]
        if there & (lacked[day] | gone[day]):
            return False
    return True


def datings(book, mould, sheets):
    return [days for days in itertools.product(DAYS, repeat=len(sheets)) if has_life(book, mould, sheets, days)]


def narrowest(all_datings):
    told = None
    for days in sorted(all_datings):
        if told is None or (max(days) - min(days), min(days)) < (max(told) - min(told), min(told)):
            told = days
    return told


def is_laying(run, laying):
    return laying[0] == 0 and all(set(run[ahead]) <= set(run[place])
                                  for ahead, place in itertools.combinations(range(len(run)), 2)
                                  if laying[ahead] == laying[place])


def layings(run):
    return [laying for laying in itertools.product((0, 1), repeat=len(run)) if is_laying(run, laying)]


def breaks(laying):
    return [place for place in range(len(laying)) if place > 0 and laying[place] == laying[place - 1]]


def fewest_breaks_from(run, place, other):
    """The fewest breaks on any way from a stand to the last place, None where there is no way."""
    if place == len(run) - 1:
        return 0
    ways = []
    if set(run[place]) <= set(run[place + 1]):
        on = fewest_breaks_from(run, place + 1, other)
        ways += [] if on is None else [on + 1]
    if other == -1 or set(run[other]) <= set(run[place + 1]):
        on = fewest_breaks_from(run, place + 1, place)
        ways += [] if on is None else [on]
    return min(ways) if ways else None


def paper(run):
    return tuple(tuple(fewest_breaks_from(run, place, other) for other in range(-1, place))
                 for place in range(len(run)))


def is_paper(run, paper):
    """Whether a table of the right form, with numbers from 0 on and None alone, is a paper."""
    value = {(place, at - 1): thing for place, row in enumerate(paper) for at, thing in enumerate(row)}
    last = len(run) - 1
    for (place, other), thing in value.items():
        if place == last:
            if thing != 0:
                return False
            continue
        goes = []
        if set(run[place]) <= set(run[place + 1]):
            goes.append((value[place + 1, other], 1))
        if other == -1 or set(run[other]) <= set(run[place + 1]):
            goes.append((value[place + 1, place], 0))
        if thing is None and any(on is not None for on, broken in goes):
            return False
        if thing is not None and any(on is not None and thing > on + broken for on, broken in goes):
            return False
    return True


def can_be_one(marks, others):
    return set(marks) <= set(others) or set(others) <= set(marks)


def fewest_rows(heap):
    """By a search through all ways to put the sheets into rows, one sheet after another."""
    best = [len(heap)]

    def put(place, groups):
        if len(groups) >= best[0]:
            return
        if place == len(heap):
            best[0] = len(groups)
            return
        for group in groups:
            if all(can_be_one(heap[place], heap[other]) for other in group):
                group.append(place)
                put(place + 1, groups)
                group.pop()
        put(place + 1, groups + [[place]])

    put(0, [])
    return best[0]


def are_strangers(heap, places):
    return not any(can_be_one(heap[one], heap[other]) for one, other in itertools.combinations(places, 2))


def most_strangers(heap):
    return max(many for many in range(len(heap) + 1) for places in itertools.combinations(range(len(heap)), many)
               if are_strangers(heap, places))


def are_rows(heap, rows):
    """Whether tuples of whole numbers are rows of a heap."""
    return (all(rows) and sorted(place for row in rows for place in row) == list(range(len(heap)))
            and all(set(heap[row[at]]) <= set(heap[row[at + 1]]) for row in rows for at in range(len(row) - 1)))
