"""The document's words on kinds, lofts, diaries, texts and desks, read again and apart from the program."""

import itertools
import re

from tests import oracle
from twinmoulds.errors import Clash, Lacking, NoDay, NoDeed, NoMould, NoPage, NoRow, NoSheet, TooMany

EVERY_MARKS = [marks for many in range(9) for marks in itertools.combinations(range(8), many)]
MARKS_BY_TEXT = {"".join(map(str, marks)) or "-": marks for marks in EVERY_MARKS}
SHEETS_BY_TEXT = {f"{one}/{other}": (has, lacks)
                  for one, has in MARKS_BY_TEXT.items() for other, lacks in MARKS_BY_TEXT.items()
                  if not set(has) & set(lacks)}
MOULDS_AND_DAYS_BY_TEXT = {f"{mould} {day}": (mould, day) for mould in range(4) for day in range(31)}

NUMBER = "(?:0|[1-9][0-9]{0,29})"
SHEET = "(?:-|[0-9]{1,30})/(?:-|[0-9]{1,30})"
PAGE = f"(?:made {NUMBER} {NUMBER} {SHEET}|mended {NUMBER} {NUMBER} {NUMBER})"
ROW = re.compile(f"(?:out )?{PAGE}|undo|book|surely {NUMBER} {NUMBER}|where {SHEET}")


def is_whole(thing, most):
    return type(thing) is int and 0 <= thing <= most


def are_marks(thing):
    return (type(thing) is tuple and all(is_whole(mark, 7) for mark in thing)
            and list(thing) == sorted(set(thing)))


def is_sheet(thing):
    return (type(thing) is tuple and len(thing) == 2 and are_marks(thing[0]) and are_marks(thing[1])
            and not set(thing[0]) & set(thing[1]))


def is_page(thing):
    if type(thing) is not tuple or len(thing) != 4 or type(thing[0]) is not str:
        return False
    if not is_whole(thing[1], 3) or not is_whole(thing[2], 30):
        return False
    return (thing[0] == "made" and is_sheet(thing[3])) or (thing[0] == "mended" and is_whole(thing[3], 7))


def are_laid(thing):
    return (type(thing) is tuple and len(thing) <= 24 and all(is_page(page) for page in thing)
            and list(thing) == sorted(set(thing)))


def is_book(thing):
    return are_laid(thing) and oracle.faults(thing) == []


def are_sheets(thing):
    return type(thing) is tuple and len(thing) in (1, 2, 3) and all(is_sheet(sheet) for sheet in thing)


def are_many_marks(thing, most):
    return type(thing) is tuple and 1 <= len(thing) <= most and all(are_marks(marks) for marks in thing)


def is_count(thing):
    return (type(thing) is tuple and len(thing) == 3
            and all(is_whole(part, most) for part, most in zip(thing, (999, 19, 23))))


def are_counts(thing):
    return type(thing) is list and len(thing) <= 20 and all(is_count(count) for count in thing)


def page_text(page):
    if page[0] == "mended":
        return "mended {} {} {}".format(*page[1:])
    return "made {} {} {}".format(*page[1:3], sheet_text(page[3]))


def sheet_text(sheet):
    return "/".join("".join(map(str, marks)) if marks else "-" for marks in sheet)


def book_text(book):
    return "".join(page_text(page) + "\n" for page in book)


def read_page(line):
    """The page that a line writes, None where it writes none."""
    word, blank, rest = line.partition(" ")
    mould_and_day, blank, last = rest.rpartition(" ")
    if mould_and_day in MOULDS_AND_DAYS_BY_TEXT:
        if word == "made" and last in SHEETS_BY_TEXT:
            return ("made", *MOULDS_AND_DAYS_BY_TEXT[mould_and_day], SHEETS_BY_TEXT[last])
        if word == "mended" and last in list("01234567"):
            return ("mended", *MOULDS_AND_DAYS_BY_TEXT[mould_and_day], int(last))
    return None


def read_book(text):
    """The book that a text writes, None where it writes none."""
    if text == "":
        return ()
    if text[-1] != "\n":
        return None
    pages = [read_page(line) for line in text[:-1].split("\n")]
    if None in pages or len(set(pages)) < len(pages):
        return None
    book = tuple(sorted(pages))
    return book if is_book(book) else None


class Loft:
    """Plain numbers of sheets. A deed tells the refusal that is due, with its many, or None."""

    def __init__(self):
        self.many = {0: 0, 1: 0, 2: 0}

    def put(self, sort, sheets):
        if self.many[sort] + sheets > 479999:
            return (TooMany, self.many[sort] + sheets)
        self.many[sort] += sheets

    def take(self, sort, sheets):
        if sheets > self.many[sort]:
            return (Lacking, sheets - self.many[sort])
        self.many[sort] -= sheets

    def broken(self):
        return sum(many % 24 > 0 for many in self.many.values())


class Diary:
    """The standing deeds, out of which the book is made anew. A deed tells the refusal that is due, or None."""

    def __init__(self):
        self.deeds = []

    def book(self, deeds=None):
        pages = set()
        for word, page in self.deeds if deeds is None else deeds:
            (pages.add if word == "tell" else pages.remove)(page)
        return tuple(sorted(pages))

    def do(self, word, page=None):
        if word == "undo":
            if not self.deeds:
                return NoDeed
            self.deeds.pop()
            return None
        if (page in self.book()) == (word == "tell") or not is_book(self.book(self.deeds + [(word, page)])):
            return Clash
        self.deeds.append((word, page))
        return None


class Desk:
    """Tells a row's answer, or the refusal that is due."""

    def __init__(self):
        self.diary = Diary()

    def say(self, row):
        if not isinstance(row, str) or not ROW.fullmatch(row):
            return NoRow
        if row == "book":
            return book_text(self.diary.book()) or "-"
        if row == "undo":
            return self.diary.do("undo") or "ok"
        if row.startswith("surely "):
            return self.surely(*map(int, row.split()[1:]))
        if row.startswith("where "):
            return self.where(SHEETS_BY_TEXT.get(row[len("where "):]))
        page = read_page(row.removeprefix("out "))
        if page is None:
            return NoPage
        return self.diary.do("strike" if row.startswith("out ") else "tell", page) or "ok"

    def surely(self, mould, day):
        if mould > 3:
            return NoMould
        if day > 30:
            return NoDay
        return sheet_text(oracle.sure_sheets(self.diary.book(), mould)[day])

    def where(self, sheet):
        if sheet is None:
            return NoSheet
        places = oracle.places_of(self.diary.book(), sheet)
        return " ".join(",".join(map(str, place)) for place in places) if places else "none"
