"""A desk that is told rows, keeps a diary's book by them, and answers each with a text."""

from twinmoulds.diary import Diary
from twinmoulds.errors import NoRow
from twinmoulds.lives import places_of, surely
from twinmoulds.texts import (NOTHING, are_page_words, book_text, is_number_word, is_sheet_word, page_of, sheet_of,
                              sheet_text)


class Desk:
    """Keeps a diary."""

    def __init__(self):
        """Begin with a new diary."""
        self.diary = Diary()

    def say(self, row):
        """Answer a row: do its deed, or tell what it asks."""
        words = words_of(row)
        if words[0] == "undo":
            self.diary.undo()
        elif words[0] == "out":
            self.diary.strike(page_of(words[1:]))
        elif words[0] == "made" or words[0] == "mended":
            self.diary.tell(page_of(words))
        else:
            return answer(self.diary.book_now(), words)
        return "ok"


def words_of(row):
    """Tell the words of a row, and refuse what is none."""
    # What stands in a row of the right form is looked at later: a wrong row is refused ahead of all else.
    if not isinstance(row, str) or not is_row(row.split(" ")):
        raise NoRow("a row tells a page, out and a page, undo, book, surely or where")
    return row.split(" ")


def is_row(words):
    """Tell whether words stand as those of a row do."""
    head, rest = words[0], words[1:]
    if head == "out":
        return are_page_words(rest)
    if head == "surely":
        return len(rest) == 2 and all([is_number_word(word) for word in rest])
    if head == "where":
        return len(rest) == 1 and is_sheet_word(rest[0])
    if head == "undo" or head == "book":
        return rest == []
    return are_page_words(words)


def answer(book, words):
    """Answer the words of a question by a book."""
    if words[0] == "surely":
        return sheet_text(surely(book, int(words[1]), int(words[2])))
    if words[0] == "where":
        return places_text(places_of(book, sheet_of(words[1])))
    return book_text(book) or NOTHING


def places_text(places):
    """Tell places as a text."""
    return " ".join([f"{mould},{first},{last}" for mould, first, last in places]) or "none"
