import itertools
import random
import unittest

from tests import oracle
from tests.asking import Asking
from tests.samples import (BOOKS, FAULTY, FULL_BOOK, NOTHING_SEEN, ODD_THINGS, WRONG_BOOKS, WRONG_DAYS, WRONG_MOULDS,
                           WRONG_SHEETS_TOGETHER, lay, made, mended, some_sheet, strewn_pages)
from twinmoulds import datings
from twinmoulds.datings import days_of, is_dating, narrowest
from twinmoulds.errors import NoBook, NoMould, NoSheets
from twinmoulds.lives import may_be

EVERY_DAY = list(range(31))
SHOWS = ((0,), ())
LACKS = ((), (0,))
STREWN_BOOKS = [laid for laid in strewn_pages(300) if oracle.faults(laid) == []][:60]

CALLS = [(is_dating, ["book", "mould", "sheets", "thing"]), (days_of, ["book", "mould", "sheets"]),
         (narrowest, ["book", "mould", "sheets"])]
RIGHT = {"book": BOOKS[2], "mould": 0, "sheets": (((0,), (1,)), SHOWS), "thing": (12, 13)}
WRONG = {"book": WRONG_BOOKS, "mould": WRONG_MOULDS, "sheets": WRONG_SHEETS_TOGETHER}
DUE = {"book": NoBook, "mould": NoMould, "sheets": NoSheets}


class Interface(Asking, unittest.TestCase):
    def test_names_and_arguments(self):
        self.named(datings, CALLS)


class Datings(Asking, unittest.TestCase):
    """[31]"""

    def only(self, wanted, book, mould, sheets):
        """wanted: of all tuples of days just those that are datings."""
        for days in itertools.product(range(31), repeat=len(sheets)):
            self.assertIs(is_dating(book, mould, sheets, days), days in wanted, days)

    def test_one_sheet(self):
        book = lay(made(1, 5, (2,)), mended(1, 10, 2), made(1, 20, (2,), (0,)))
        self.only([(day,) for day in range(10, 20)] + [(day,) for day in range(5)], book, 1, (((), (2,)),))
        self.only([(day,) for day in EVERY_DAY if day != 10], book, 1, (((2,), ()),))
        self.only([(day,) for day in EVERY_DAY], book, 0, (((2,), ()),))

    def test_one_sheet_goes_where_it_may_be(self):
        for book in BOOKS:
            for mould in range(4):
                for sheet in [NOTHING_SEEN, SHOWS, LACKS, ((1,), (2,)), ((2,), (0,))]:
                    wanted = [day for day in EVERY_DAY if may_be(book, mould, day, sheet)]
                    self.assertEqual(days_of(book, mould, (sheet,)), [wanted])
                    self.assertEqual([day for day in EVERY_DAY if is_dating(book, mould, (sheet,), (day,))], wanted)
                    self.assertEqual(narrowest(book, mould, (sheet,)), (wanted[0],) if wanted else None)

    def test_two_sheets_that_go_together(self):
        self.only(list(itertools.product(EVERY_DAY, EVERY_DAY)), (), 0, (SHOWS, ((1,), ())))

    def test_two_sheets_that_clash_on_one_day_and_on_days_apart(self):
        ahead = [(late, early) for late in EVERY_DAY for early in range(late)]
        self.only(ahead, (), 2, (SHOWS, LACKS))
        self.only([(early, late) for late, early in ahead], (), 2, (LACKS, SHOWS))
        self.only([], (), 2, (((0,), (1,)), ((1,), (0,))))
        self.assertEqual(days_of((), 2, (SHOWS, LACKS)), [EVERY_DAY[1:], EVERY_DAY[:30]])

    def test_with_a_mending_between(self):
        book = (mended(2, 10, 0),)
        wanted = [(shown, lacked) for shown in EVERY_DAY for lacked in EVERY_DAY
                  if shown != 10 and (lacked < shown or shown < 10 <= lacked)]
        self.only(wanted, book, 2, (SHOWS, LACKS))
        self.assertIs(is_dating(book, 2, (SHOWS, LACKS), (9, 10)), True)
        self.assertIs(is_dating(book, 2, (SHOWS, LACKS), (9, 9)), False)
        self.assertIs(is_dating(book, 2, (SHOWS, LACKS), (10, 11)), False)
        self.assertIs(is_dating(book, 2, (SHOWS, LACKS), (11, 12)), False)

    def test_a_mending_of_another_mark_or_mould_is_none(self):
        self.assertIs(is_dating((mended(2, 10, 1),), 2, (SHOWS, LACKS), (9, 10)), False)
        self.assertIs(is_dating((mended(1, 10, 0),), 2, (SHOWS, LACKS), (9, 10)), False)
        self.assertEqual(days_of((mended(2, 30, 1),), 2, (SHOWS, LACKS))[0], EVERY_DAY[1:])
        self.assertEqual(days_of((mended(1, 30, 0),), 2, (SHOWS, LACKS))[0], EVERY_DAY[1:])
        # On day 29 none is left for the one that shows it: behind it is the mending's own day alone.
        self.assertEqual(days_of((mended(2, 30, 0),), 2, (SHOWS, LACKS)), [EVERY_DAY[:30], EVERY_DAY[:29] + [30]])

    def test_one_mark_mended_and_one_not(self):
        book = (mended(0, 10, 0),)
        sheets = (((0, 1), ()), ((), (0, 1)))
        self.assertIs(is_dating(book, 0, sheets, (9, 10)), False)
        self.assertIs(is_dating(book, 0, sheets, (9, 8)), True)
        both = lay(mended(0, 10, 0), mended(0, 12, 1))
        self.assertIs(is_dating(both, 0, sheets, (9, 11)), False)
        self.assertIs(is_dating(both, 0, sheets, (9, 12)), True)

    def test_one_sheet_twice(self):
        book = lay(made(0, 5, (), (0,)), mended(0, 20, 0))
        days = [day for day in EVERY_DAY if day > 5 and day != 20]
        self.only(list(itertools.product(days, days)), book, 0, (SHOWS, SHOWS))
        self.assertEqual(days_of(book, 0, (SHOWS, SHOWS)), [days, days])
        self.assertEqual(days_of(book, 0, (SHOWS, SHOWS, SHOWS)), [days, days, days])
        self.assertEqual(narrowest(book, 0, (SHOWS, SHOWS, SHOWS)), (6, 6, 6))

    def test_three_sheets_in_any_order(self):
        chain = [((), (0, 1)), ((0,), (1,)), ((0, 1), ())]
        for order in itertools.permutations(range(3)):
            sheets = tuple(chain[at] for at in order)
            days = [EVERY_DAY[:29], EVERY_DAY[1:30], EVERY_DAY[2:]]
            self.assertEqual(days_of((), 3, sheets), [days[at] for at in order])
            self.assertIs(is_dating((), 3, sheets, tuple((4, 5, 6)[at] for at in order)), True)
            self.assertIs(is_dating((), 3, sheets, tuple((4, 4, 6)[at] for at in order)), False)
            self.assertIs(is_dating((), 3, sheets, tuple((4, 6, 5)[at] for at in order)), False)
            self.assertEqual(narrowest((), 3, sheets), order)

    def test_each_two_of_three_go_but_not_all(self):
        sheets = (((0,), (1,)), ((1,), (2,)), ((2,), (0,)))
        for two in itertools.combinations(sheets, 2):
            self.assertIsNotNone(narrowest((), 0, two))
        self.assertIsNone(narrowest((), 0, sheets))
        self.assertEqual(days_of((), 0, sheets), [[], [], []])

    def test_where_there_is_none_each_list_is_empty(self):
        book = (made(0, 30, (), (0,)),)
        for many in (1, 2, 3):
            sheets = (NOTHING_SEEN,) * (many - 1) + (SHOWS,)
            told = self.own_answer(days_of, book, 0, sheets)
            self.assertEqual(told, [[]] * many)
            self.assertIsNone(narrowest(book, 0, sheets))

    def test_a_book_of_24_pages(self):
        self.assertEqual(len(FULL_BOOK), 24)
        late = EVERY_DAY[24:]
        sheets = (((1,), ()), ((), (0,)), ((0,), (1,)))
        self.assertEqual(days_of(FULL_BOOK, 0, sheets), [late, EVERY_DAY[:12], EVERY_DAY[1:30]])
        self.assertIs(is_dating(FULL_BOOK, 0, sheets, (24, 11, 12)), True)
        self.assertIs(is_dating(FULL_BOOK, 0, sheets, (23, 11, 12)), False)
        self.assertIs(is_dating(FULL_BOOK, 0, sheets, (24, 12, 13)), False)
        self.assertIs(is_dating(FULL_BOOK, 0, sheets, (24, 11, 24)), False)
        self.assertEqual(narrowest(FULL_BOOK, 0, sheets), (24, 11, 12))

    def test_pages_of_the_book_again(self):
        for book in BOOKS:
            for page in book:
                if page[0] == "made":
                    self.assertIs(is_dating(book, page[1], (page[3],) * 3, (page[2],) * 3), True)

    def test_things_that_are_no_dating(self):
        sheets = (SHOWS, NOTHING_SEEN, LACKS)
        self.truth(True, is_dating, (), 0, sheets, (1, 5, 0))
        for thing in ODD_THINGS + [(), 0, (1,), (1, 5), (1, 5, 0, 0), (1, 5, 0, None), [1, 5, 0], [[1], [5], [0]],
                                   ((1,), (5,), (0,)), ((1, 5, 0),), (1, 5, "0"), ("1", "5", "0"), {1: 5, 5: 0, 0: 1},
                                   (1, (5,), 0), (1, [5], 0), (1, {}, 0), (10 ** 29, 5, 0)]:
            self.truth(False, is_dating, (), 0, sheets, thing)
        for at in range(3):
            for wrong in WRONG_DAYS:
                self.truth(False, is_dating, (), 0, sheets, (1, 5, 0)[:at] + (wrong,) + (1, 5, 0)[at + 1:])

    def test_truths_are_no_days(self):
        for many in (1, 2, 3):
            for truth in (True, False, None, -1, 31):
                for at in range(many):
                    days = [1] * many
                    days[at] = truth
                    self.truth(False, is_dating, (), 0, (NOTHING_SEEN,) * many, tuple(days))
            self.truth(True, is_dating, (), 0, (NOTHING_SEEN,) * many, (0,) * many)
            self.truth(True, is_dating, (), 0, (NOTHING_SEEN,) * many, (30,) * many)
            self.truth(False, is_dating, (), 0, (NOTHING_SEEN,) * many, (0,) * (many + 1))
            self.truth(False, is_dating, (), 0, (NOTHING_SEEN,) * many, (0,) * (many - 1))

    def test_what_was_told_is_asked_again(self):
        for book in BOOKS:
            told = days_of(book, 1, (SHOWS, LACKS))
            self.truth(False, is_dating, book, 1, (SHOWS, LACKS), told)
            self.truth(False, is_dating, book, 1, (SHOWS, LACKS), tuple(told))
            if narrowest(book, 1, (SHOWS, LACKS)) is not None:
                self.truth(True, is_dating, book, 1, (SHOWS, LACKS), narrowest(book, 1, (SHOWS, LACKS)))

    def test_strewn_books_and_things(self):
        chance = random.Random(11)
        answers = {True: 0, False: 0}
        for book in BOOKS + STREWN_BOOKS:
            for turn in range(12):
                sheets = tuple(some_sheet(chance, 3) for each in range(chance.randrange(1, 4)))
                days = tuple(chance.randrange(31) for sheet in sheets)
                pages = {("made", turn % 4, day, sheet) for day, sheet in zip(days, sheets)}
                wanted = oracle.faults(set(book) | pages) == []
                self.truth(wanted, is_dating, book, turn % 4, sheets, days)
                self.assertIs(oracle.has_life(book, turn % 4, sheets, days), wanted)
                answers[wanted] += 1
        self.assertGreater(min(answers.values()), 100)


class Searched(Asking, unittest.TestCase):
    """[31], [32], against a search through all days"""

    def held(self, book, mould, sheets):
        wanted = oracle.datings(book, mould, sheets)
        days = self.own_answer(days_of, book, mould, sheets)
        self.assertEqual(days, [sorted({dating[at] for dating in wanted}) for at in range(len(sheets))])
        told = self.own_answer(narrowest, book, mould, sheets)
        self.assertEqual(told, oracle.narrowest(wanted), (book, mould, sheets))
        self.assertIsInstance(told, tuple if wanted else type(None))
        return 0 < len(wanted) < 31 ** len(sheets)

    def test_one_and_two_sheets(self):
        chance = random.Random(12)
        mixed = 0
        for book in BOOKS + STREWN_BOOKS:
            for many in (1, 2):
                sheets = tuple(some_sheet(chance, 3) for each in range(many))
                mixed += self.held(book, chance.randrange(2), sheets)
        self.assertGreater(mixed, 40)

    def test_three_sheets(self):
        chance = random.Random(13)
        mixed = sum(self.held(book, chance.randrange(2), tuple(some_sheet(chance, 3) for each in range(3)))
                    for book in BOOKS[3:7] + STREWN_BOOKS[:14])
        self.assertGreater(mixed, 5)


class Narrowest(Asking, unittest.TestCase):
    """[32]"""

    def test_all_on_one_day(self):
        self.assertEqual(narrowest((), 0, (NOTHING_SEEN,) * 3), (0, 0, 0))
        book = lay(made(0, 7, (), (0,)), made(0, 9, (1,)))
        self.assertEqual(narrowest(book, 0, (SHOWS, ((), (1,)))), (8, 8))
        self.assertEqual(narrowest(book, 0, (SHOWS,)), (8,))

    def test_of_several_as_narrow_the_one_with_the_least_day(self):
        self.assertEqual(narrowest((), 0, (SHOWS, LACKS)), (1, 0))
        self.assertEqual(narrowest((), 0, (LACKS, SHOWS)), (0, 1))
        book = (mended(0, 5, 0),)
        self.assertEqual(narrowest(book, 0, (SHOWS, LACKS)), (1, 0))
        self.assertEqual(narrowest((mended(0, 1, 0),), 0, (SHOWS, LACKS)), (0, 1))

    def test_of_several_with_the_least_day_the_first(self):
        book = lay(mended(0, 4, 0), made(0, 5, (0,)), made(0, 3, (0,)), made(0, 2, (), (0,)))
        self.assertEqual(narrowest(book, 0, (SHOWS, LACKS)), (3, 2))
        free = (NOTHING_SEEN, SHOWS, LACKS)
        self.assertEqual(narrowest((), 0, free), (0, 1, 0))
        self.assertEqual(narrowest((), 0, (SHOWS, NOTHING_SEEN, LACKS)), (1, 0, 0))
        self.assertEqual(narrowest((), 0, (LACKS, SHOWS, NOTHING_SEEN)), (0, 1, 0))

    def test_a_narrow_one_late_goes_ahead_of_a_wide_one_early(self):
        book = lay(made(0, 3, (0,)), mended(0, 20, 0), made(0, 19, (), (1,)))
        self.assertEqual(narrowest(book, 0, (((1,), ()), ((), (0,)))), (20, 20))
        apart = lay(made(0, 9, (), (0,)), made(0, 4, (1,)))
        self.assertEqual(narrowest(apart, 0, (SHOWS, ((), (1,)))), (10, 3))

    def test_none(self):
        self.assertIsNone(narrowest((), 0, (((0,), (1,)), ((1,), (0,)))))
        self.assertIsNone(narrowest((made(0, 30, (), (0,)),), 0, (NOTHING_SEEN, SHOWS)))
        self.assertEqual(narrowest((made(0, 30, (), (0,)),), 1, (NOTHING_SEEN, SHOWS)), (0, 0))


class Refusals(Asking, unittest.TestCase):
    """[4], [5]"""

    def test_each_wrong_thing_by_itself(self):
        self.each_refused(CALLS, RIGHT, WRONG, DUE)

    def test_the_leftmost_of_several_is_refused(self):
        self.leftmost_refused(CALLS, RIGHT, WRONG, DUE)

    def test_sheets_at_the_bounds(self):
        for many in (1, 2, 3):
            self.assertEqual(len(days_of((), 0, (SHOWS,) * many)), many)
        for sheets in [(), (SHOWS,) * 4, [SHOWS], SHOWS, (SHOWS, None), (None, SHOWS), (SHOWS, SHOWS, ((0,), (0,)))]:
            self.refused(NoSheets, days_of, [(), 0, sheets])
            self.refused(NoSheets, narrowest, [(), 0, sheets])
            self.refused(NoSheets, is_dating, [(), 0, sheets, (0,)])

    def test_a_faulty_book_is_none(self):
        for laid in FAULTY:
            self.refused(NoBook, is_dating, [laid, 4, (), None])
            self.refused(NoBook, days_of, [laid, True, (SHOWS,)])
            self.refused(NoBook, narrowest, [laid, 0, (SHOWS,)])

    def test_bounds_of_moulds(self):
        for mould in range(4):
            self.truth(True, is_dating, (), mould, (SHOWS,), (0,))
        for mould in (-1, 4, True, False, None, "0", [0]):
            self.refused(NoMould, is_dating, [(), mould, (), (0,)])

    def test_asked_again_the_answer_is_the_same(self):
        for book in BOOKS:
            for mould in range(4):
                told = self.own_answer(days_of, book, mould, (SHOWS, NOTHING_SEEN))
                self.assertEqual([days.__class__ for days in told], [list, list])
                self.own_answer(narrowest, book, mould, (SHOWS, LACKS))
                self.own_answer(is_dating, book, mould, (SHOWS, LACKS), (1, 0))


if __name__ == "__main__":
    unittest.main()
