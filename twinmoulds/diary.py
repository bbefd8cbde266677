"""A diary that keeps a book, whose deeds can be undone."""

from twinmoulds.errors import Clash, NoDeed
from twinmoulds.pages import is_book, need_page


class Diary:
    """Keeps the book that each standing deed left, ahead of them all the one at first."""

    def __init__(self):
        """Begin with a book without pages."""
        self.books = [()]

    def tell(self, page):
        """Put a page."""
        need_page(page)
        # A page that is there already would stand twice, and that is no book either.
        self.keep(tuple(sorted(self.book_now() + (page,))))

    def strike(self, page):
        """Take a page out."""
        need_page(page)
        book = self.book_now()
        if page not in book:
            raise Clash("the page isn't there")
        self.keep(tuple([other for other in book if other != page]))

    def undo(self):
        """Undo the last deed that stands."""
        if len(self.books) == 1:
            raise NoDeed("no deed stands")
        self.books.pop()

    def book_now(self):
        """Tell the book that is kept."""
        return self.books[-1]

    def keep(self, pages):
        """Keep pages as the book that a deed left, and refuse them where they are none."""
        if not is_book(pages):
            raise Clash("no book comes of this deed")
        self.books.append(pages)
