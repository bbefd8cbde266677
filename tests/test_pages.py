import copy
import inspect
import itertools
import unittest

from tests import oracle
from tests.samples import (BOOKS, FAULTY, FULL_BOOK, NOTHING_SEEN, WRONG_BOOKS, WRONG_LAID, WRONG_MARKS, WRONG_PAGES,
                           WRONG_SHEETS, lay, made, mended, strewn_pages)
from twinmoulds import pages
from twinmoulds.errors import NoBook
from twinmoulds.pages import are_marks, faults, is_book, is_page, is_sheet


class Interface(unittest.TestCase):
    def test_names_and_arguments(self):
        for name, wanted in [("are_marks", ["thing"]), ("is_sheet", ["thing"]), ("is_page", ["thing"]),
                             ("faults", ["laid"]), ("is_book", ["thing"])]:
            self.assertEqual(list(inspect.signature(getattr(pages, name)).parameters), wanted, name)


class Kinds(unittest.TestCase):
    """[2], [11]"""

    def all_are(self, asked, wanted, things):
        for thing in things:
            before = copy.deepcopy(thing)
            self.assertIs(asked(thing), wanted, thing)
            self.assertEqual(repr(thing), repr(before))

    def test_marks(self):
        every = [marks for many in range(9) for marks in itertools.combinations(range(8), many)]
        self.assertEqual(len(every), 256)
        self.all_are(are_marks, True, every)

    def test_marks_at_the_bounds(self):
        self.all_are(are_marks, True, [(), (0,), (7,), (0, 7)])
        self.all_are(are_marks, False, [(-1,), (8,), (-1, 7), (0, 8)])

    def test_no_marks(self):
        self.all_are(are_marks, False, WRONG_MARKS)

    def test_sheets(self):
        self.all_are(is_sheet, True, [
            NOTHING_SEEN, ((0,), ()), ((), (0,)), ((7,), (0,)), ((0,), (7,)), ((1, 3, 5, 7), (0, 2, 4, 6)),
            (tuple(range(8)), ()), ((), tuple(range(8)))])

    def test_no_sheets(self):
        self.all_are(is_sheet, False, WRONG_SHEETS)

    def test_every_mark_is_in_one_half_alone(self):
        for mark in range(8):
            self.assertIs(is_sheet(((mark,), (mark,))), False)
            for other in range(8):
                self.assertIs(is_sheet(((mark,), (other,))), mark != other)

    def test_made_pages(self):
        self.all_are(is_page, True, [
            made(mould, day, *sheet) for mould in range(4) for day in range(31)
            for sheet in [NOTHING_SEEN, ((0,), (7,)), ((1, 2), ())]])

    def test_mended_pages(self):
        self.all_are(is_page, True, [
            mended(mould, day, mark) for mould in range(4) for day in range(31) for mark in range(8)])

    def test_no_pages(self):
        self.all_are(is_page, False, WRONG_PAGES)

    def test_sheets_of_pages_that_are_none(self):
        self.all_are(is_page, False, [("made", 0, 0, sheet) for sheet in WRONG_SHEETS])

    def test_books(self):
        self.all_are(is_book, True, BOOKS)

    def test_no_books(self):
        self.all_are(is_book, False, WRONG_BOOKS)

    def test_books_of_24_pages_and_no_more(self):
        self.assertEqual(len(FULL_BOOK), 24)
        self.assertIs(is_book(FULL_BOOK), True)
        self.assertIs(is_book(FULL_BOOK + (made(0, 24),)), False)
        self.assertIs(is_book(tuple(mended(3, day, 7) for day in range(24))), True)
        self.assertIs(is_book(tuple(mended(3, day, 7) for day in range(25))), False)

    def test_what_was_told_is_asked_again(self):
        self.all_are(is_book, False, [faults(laid) for laid in FAULTY])
        self.all_are(is_book, False, [tuple(faults(laid)) for laid in FAULTY])
        self.all_are(is_page, False, [faults(laid)[0] for laid in FAULTY])


class Faults(unittest.TestCase):
    """[12]"""

    def told(self, wanted, *told):
        laid = lay(*told)
        self.assertEqual(faults(laid), wanted)
        self.assertIs(is_book(laid), wanted == [])

    def test_none(self):
        for book in BOOKS:
            self.assertEqual(faults(book), [])

    def test_of_one_day(self):
        self.told([(0, 1, 5, 5)], made(0, 5, (1,)), made(0, 5, (), (1,)))

    def test_of_a_mending_on_the_day(self):
        self.told([(2, 7, 30, 30)], made(2, 30, (7,)), mended(2, 30, 7))
        self.told([(2, 0, 0, 0)], made(2, 0, (0,)), mended(2, 0, 0))

    def test_a_mending_of_another_mark_mould_or_day_is_none(self):
        self.told([], made(2, 30, (7,)), mended(2, 30, 6))
        self.told([], made(2, 30, (7,)), mended(1, 30, 7))
        self.told([], made(2, 29, (7,)), mended(2, 30, 7))
        self.told([], made(2, 30, (7,)), mended(2, 29, 7))

    def test_of_days_apart(self):
        self.told([(0, 1, 5, 6)], made(0, 5, (1,)), made(0, 6, (), (1,)))
        self.told([(3, 0, 0, 30)], made(3, 0, (0,)), made(3, 30, (), (0,)))

    def test_marks_may_come(self):
        self.told([], made(0, 5, (), (1,)), made(0, 6, (1,)))

    def test_other_moulds_and_other_marks_go_together(self):
        self.told([], made(0, 5, (1,)), made(1, 6, (), (1,)))
        self.told([], made(0, 5, (1,)), made(0, 6, (), (2,)))

    def test_mended_between(self):
        self.told([], made(0, 5, (1,)), mended(0, 7, 1), made(0, 9, (), (1,)))
        self.told([], made(0, 5, (1,)), mended(0, 6, 1), made(0, 9, (), (1,)))

    def test_mended_on_the_later_day(self):
        self.told([], made(0, 5, (1,)), mended(0, 9, 1), made(0, 9, (), (1,)))

    def test_mended_behind_the_later_day(self):
        self.told([(0, 1, 5, 9)], made(0, 5, (1,)), mended(0, 10, 1), made(0, 9, (), (1,)))

    def test_mended_on_the_day_itself(self):
        self.told([(0, 1, 5, 5), (0, 1, 5, 9)], made(0, 5, (1,)), mended(0, 5, 1), made(0, 9, (), (1,)))

    def test_mended_on_the_one_day_of_a_clash(self):
        self.told([(0, 1, 5, 5)], made(0, 5, (1,)), mended(0, 5, 1), made(0, 5, (), (1,)))

    def test_mended_ahead_of_the_day(self):
        self.told([(0, 1, 5, 9)], made(0, 5, (1,)), mended(0, 4, 1), made(0, 9, (), (1,)))

    def test_another_mark_or_mould_mended_between(self):
        self.told([(0, 1, 5, 9)], made(0, 5, (1,)), mended(0, 7, 2), made(0, 9, (), (1,)))
        self.told([(0, 1, 5, 9)], made(0, 5, (1,)), mended(1, 7, 1), made(0, 9, (), (1,)))

    def test_mended_and_there_again(self):
        self.told([(0, 1, 8, 9)], made(0, 5, (1,)), mended(0, 7, 1), made(0, 8, (1,)), made(0, 9, (), (1,)))

    def test_what_several_pages_tell_is_told_once(self):
        self.told([(0, 1, 5, 9)], made(0, 5, (1,)), made(0, 5, (1, 2)), made(0, 5, (1,), (3,)),
                  made(0, 9, (), (1,)), made(0, 9, (), (1, 4)))
        self.told([(0, 1, 5, 5)], made(0, 5, (1,)), made(0, 5, (1, 2)), made(0, 5, (), (1,)), mended(0, 5, 1))

    def test_the_list_rises(self):
        self.told([(0, 0, 5, 9), (0, 1, 5, 9), (0, 1, 7, 9), (1, 0, 0, 3), (1, 0, 0, 4), (3, 7, 30, 30)],
                  made(3, 30, (7,)), mended(3, 30, 7),
                  made(1, 0, (0,)), made(1, 4, (), (0,)), made(1, 3, (), (0,)),
                  made(0, 5, (0, 1)), made(0, 7, (1,)), made(0, 9, (), (0, 1)))

    def test_strewn_pages(self):
        kinds = {True: 0, False: 0}
        for laid in strewn_pages(400):
            wanted = oracle.faults(laid)
            self.assertEqual(faults(laid), wanted, laid)
            self.assertIs(is_book(laid), wanted == [], laid)
            self.assertIs(oracle.have_lives(laid), wanted == [], laid)
            kinds[wanted == []] += 1
        self.assertGreater(min(kinds.values()), 100)

    def test_no_laid_pages(self):
        for thing in WRONG_LAID:
            before = copy.deepcopy(thing)
            with self.assertRaises(NoBook, msg=thing) as caught:
                faults(thing)
            self.assertIs(caught.exception.__class__, NoBook)
            self.assertEqual(repr(thing), repr(before))

    def test_lists_are_new(self):
        for laid in FAULTY + BOOKS:
            first = faults(laid)
            self.assertIsInstance(first, list)
            second = faults(laid)
            self.assertIsNot(first, second)
            first.append(None)
            self.assertEqual(faults(laid), second)


if __name__ == "__main__":
    unittest.main()
