"""Marks, sheets, pages and books written as texts, and read from them."""

from twinmoulds.errors import NoText
from twinmoulds.pages import is_book, need_book

FIGURES = "0123456789"
LONGEST = 30
NOTHING = "-"


def book_text(book):
    """Tell a book as a text."""
    need_book(book)
    return "".join([page_text(page) + "\n" for page in book])


def read_book(text):
    """Tell the book that a text writes, its pages in any order."""
    if not isinstance(text, str):
        raise NoText("the text of a book is a text")
    lines = text.split("\n")
    # Each page has a line end behind it, so behind the last line end nothing stands.
    if lines[-1] != "":
        raise NoText("behind each page stands a line end")
    # What has the form of pages compares as pages do, and whether it is a book is asked of all at once.
    book = tuple(sorted([read_page(line) for line in lines[:-1]]))
    if not is_book(book):
        raise NoText("the pages make no book")
    return book


def marks_text(marks):
    """Tell marks as a text."""
    return "".join([str(mark) for mark in marks]) or NOTHING


def sheet_text(sheet):
    """Tell a sheet as a text."""
    has, lacks = sheet
    return marks_text(has) + "/" + marks_text(lacks)


def page_text(page):
    """Tell a page as a text."""
    word, mould, day, what = page
    last = sheet_text(what) if word == "made" else str(what)
    return f"{word} {mould} {day} {last}"


def read_page(line):
    """Tell what a line of a book's text makes: a page, or what has its form alone."""
    words = line.split(" ")
    if not are_page_words(words):
        raise NoText("each line has the words of a page")
    return page_of(words)


def are_page_words(words):
    """Tell whether words stand as those of a page do, be what they make a page or none."""
    if len(words) != 4:
        return False
    word, mould, day, what = words
    if not is_number_word(mould) or not is_number_word(day):
        return False
    if word == "made":
        return is_sheet_word(what)
    return word == "mended" and is_number_word(what)


def is_number_word(word):
    """Tell whether a word is a number in at most thirty figures, without a needless nought."""
    return are_figures(word) and (word[0] != "0" or word == "0")


def is_sheet_word(word):
    """Tell whether a word stands as a sheet does, be what it makes a sheet or none."""
    halves = word.split("/")
    return len(halves) == 2 and all([half == NOTHING or are_figures(half) for half in halves])


def are_figures(word):
    """Tell whether a word is one to thirty figures."""
    return 1 <= len(word) <= LONGEST and all([sign in FIGURES for sign in word])


def page_of(words):
    """Tell what the words of a page make: a page, or what has its form alone."""
    word, mould, day, what = words
    last = sheet_of(what) if word == "made" else int(what)
    return (word, int(mould), int(day), last)


def sheet_of(word):
    """Tell what the word of a sheet makes: a sheet, or what has its form alone."""
    has, lacks = word.split("/")
    return (marks_of(has), marks_of(lacks))


def marks_of(word):
    """Tell what the word of marks makes: marks, or what has their form alone."""
    if word == NOTHING:
        return ()
    return tuple([int(figure) for figure in word])
