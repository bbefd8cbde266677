import copy
import inspect
import itertools
import random
import unittest

from tests import oracle
from tests.asking import Asking
from tests.samples import (BOOKS, FAULTY, FULL_BOOK, NOTHING_SEEN, ODD_THINGS, WRONG_BOOKS, WRONG_DAYS, WRONG_MOULDS,
                           WRONG_SHEETS, lay, made, mended, some_sheet, strewn_pages)
from twinmoulds import lives
from twinmoulds.errors import NoBook, NoDay, NoMould, NoSheet
from twinmoulds.lives import is_life, least_life, may_be, most_life, places_of, surely
from twinmoulds.pages import is_book, is_sheet

EVERY = tuple(range(8))
STREWN_BOOKS = [laid for laid in strewn_pages(300) if oracle.faults(laid) == []][:100]


class Interface(unittest.TestCase):
    def test_names_and_arguments(self):
        for name, wanted in [("surely", ["book", "mould", "day"]), ("is_life", ["book", "mould", "thing"]),
                             ("least_life", ["book", "mould"]), ("most_life", ["book", "mould"]),
                             ("may_be", ["book", "mould", "day", "sheet"]), ("places_of", ["book", "sheet"])]:
            self.assertEqual(list(inspect.signature(getattr(lives, name)).parameters), wanted, name)


class Surely(unittest.TestCase):
    """[6], [21]"""

    def told(self, wanted, *pages, mould=0):
        """wanted: for some days the sheet that is told."""
        for day, sheet in wanted.items():
            self.assertEqual(surely(lay(*pages), mould, day), sheet, day)

    def test_of_no_pages_nothing_is_sure(self):
        for mould in range(4):
            self.told({day: NOTHING_SEEN for day in range(31)}, mould=mould)

    def test_a_mark_that_is_shown_stays(self):
        self.told({0: NOTHING_SEEN, 9: NOTHING_SEEN, 10: ((3,), ()), 11: ((3,), ()), 30: ((3,), ())}, made(0, 10, (3,)))

    def test_a_mark_that_is_lacked_was_never_there(self):
        self.told({0: ((), (3,)), 9: ((), (3,)), 10: ((), (3,)), 11: NOTHING_SEEN, 30: NOTHING_SEEN},
                  made(0, 10, (), (3,)))

    def test_on_the_first_and_the_last_day(self):
        self.told({0: ((3,), ()), 30: ((3,), ())}, made(0, 0, (3,)))
        self.told({0: NOTHING_SEEN, 29: NOTHING_SEEN, 30: ((3,), ())}, made(0, 30, (3,)))
        self.told({0: ((), (3,)), 30: ((), (3,))}, made(0, 30, (), (3,)))
        self.told({0: ((), (3,)), 1: NOTHING_SEEN, 30: NOTHING_SEEN}, made(0, 0, (), (3,)))

    def test_a_mending_alone(self):
        self.told({0: NOTHING_SEEN, 9: NOTHING_SEEN, 10: ((), (3,)), 11: NOTHING_SEEN, 30: NOTHING_SEEN},
                  mended(0, 10, 3))
        self.told({0: ((), (3,)), 1: NOTHING_SEEN}, mended(0, 0, 3))
        self.told({29: NOTHING_SEEN, 30: ((), (3,))}, mended(0, 30, 3))

    def test_a_mending_ends_what_was_shown(self):
        self.told({4: NOTHING_SEEN, 5: ((3,), ()), 9: ((3,), ()), 10: ((), (3,)), 11: NOTHING_SEEN, 30: NOTHING_SEEN},
                  made(0, 5, (3,)), mended(0, 10, 3))

    def test_a_mending_hides_what_is_lacked_later(self):
        self.told({0: NOTHING_SEEN, 9: NOTHING_SEEN, 10: ((), (3,)), 14: ((), (3,)), 15: ((), (3,)), 16: NOTHING_SEEN},
                  mended(0, 10, 3), made(0, 15, (), (3,)))

    def test_lacked_on_the_day_of_the_mending(self):
        self.told({9: NOTHING_SEEN, 10: ((), (3,)), 11: NOTHING_SEEN}, mended(0, 10, 3), made(0, 10, (), (3,)))

    def test_two_mendings(self):
        self.told({9: NOTHING_SEEN, 10: ((), (3,)), 11: NOTHING_SEEN, 19: NOTHING_SEEN, 20: ((), (3,)),
                   25: ((), (3,)), 26: NOTHING_SEEN},
                  mended(0, 10, 3), mended(0, 20, 3), made(0, 25, (), (3,)))

    def test_shown_again_behind_a_mending(self):
        self.told({9: ((3,), ()), 10: ((), (3,)), 11: ((3,), ()), 30: ((3,), ())},
                  made(0, 5, (3,)), mended(0, 10, 3), made(0, 11, (3,)))

    def test_between_lacked_and_shown_nothing_is_sure(self):
        self.told({5: ((), (3,)), 6: NOTHING_SEEN, 8: NOTHING_SEEN, 9: ((3,), ())},
                  made(0, 5, (), (3,)), made(0, 9, (3,)))

    def test_several_marks_rise(self):
        self.told({10: ((1, 2, 6), (0, 4, 7))},
                  made(0, 10, (6,), (7,)), made(0, 8, (1,)), made(0, 9, (2,)), made(0, 12, (), (4,)), mended(0, 10, 0))

    def test_another_mould_turns_nothing(self):
        for mould, other in itertools.permutations(range(4), 2):
            self.told({day: NOTHING_SEEN for day in range(31)},
                      made(other, 5, (3,), (1,)), mended(other, 8, 3), made(other, 20, (), (2,)), mould=mould)
        pages = [made(0, 5, (3,)), made(0, 20, (), (2,))]
        others = [mended(1, 10, 3), mended(2, 20, 2), made(3, 0, (2,)), made(1, 30, (), (3,))]
        for day in range(31):
            self.assertEqual(surely(lay(*pages), 0, day), surely(lay(*pages, *others), 0, day))

    def test_strewn_books(self):
        self.assertGreater(len(STREWN_BOOKS), 60)
        for book in BOOKS + STREWN_BOOKS:
            for mould in range(4):
                wanted = oracle.sure_sheets(book, mould)
                told = [surely(book, mould, day) for day in range(31)]
                self.assertEqual(told, wanted, book)
                self.assertTrue(all(is_sheet(sheet) for sheet in told))
                self.assertTrue(all(may_be(book, mould, day, told[day]) for day in (0, 14, 15, 16, 30)))


def with_day(life, day, marks):
    return life[:day] + (marks,) + life[day + 1:]


class Lives(unittest.TestCase):
    """[6], [22]"""

    def test_of_no_pages(self):
        self.assertEqual(least_life((), 0), ((),) * 31)
        self.assertEqual(most_life((), 0), (EVERY,) * 31)

    def test_with_pages(self):
        book = lay(made(1, 5, (2,)), mended(1, 10, 2), made(1, 20, (2,), (0,)))
        without_0 = tuple(range(1, 8))
        self.assertEqual(least_life(book, 1), ((),) * 5 + ((2,),) * 5 + ((),) * 10 + ((2,),) * 11)
        self.assertEqual(most_life(book, 1), (without_0,) * 10 + ((1,) + tuple(range(3, 8)),) + (without_0,) * 10
                         + (EVERY,) * 10)
        self.assertEqual(least_life(book, 0), ((),) * 31)
        self.assertEqual(most_life(book, 0), (EVERY,) * 31)

    def test_least_and_most_are_lives_and_bound_all(self):
        for book in BOOKS + STREWN_BOOKS:
            for mould in range(4):
                sure = oracle.sure_sheets(book, mould)
                least, most = least_life(book, mould), most_life(book, mould)
                self.assertIs(is_life(book, mould, least), True)
                self.assertIs(is_life(book, mould, most), True)
                self.assertEqual(least, tuple(has for has, lacks in sure))
                self.assertEqual(most, tuple(tuple(sorted(set(EVERY) - set(lacks))) for has, lacks in sure))

    def test_a_mark_more_or_less_on_one_day(self):
        turned = {True: 0, False: 0}
        for book in BOOKS + STREWN_BOOKS[:20]:
            for mould in (0, 1):
                for life in (least_life(book, mould), most_life(book, mould)):
                    for day, mark in itertools.product(range(31), (0, 2, 3)):
                        other = with_day(life, day, tuple(sorted(set(life[day]) ^ {mark})))
                        wanted = oracle.is_life(book, mould, other)
                        self.assertIs(is_life(book, mould, other), wanted, (book, other))
                        turned[wanted] += 1
        self.assertGreater(min(turned.values()), 100)

    def test_marks_come_and_stay(self):
        self.assertIs(is_life((), 0, ((),) * 30 + ((0,),)), True)
        self.assertIs(is_life((), 0, ((0,),) + ((),) * 30), False)
        self.assertIs(is_life((), 0, ((0,),) * 30 + ((),)), False)
        self.assertIs(is_life((), 0, ((),) * 10 + ((0,),) + ((),) * 20), False)
        self.assertIs(is_life((), 0, ((0,),) * 31), True)

    def test_marks_go_by_mending_alone(self):
        life = ((0,),) * 10 + ((),) * 21
        self.assertIs(is_life((mended(0, 10, 0),), 0, life), True)
        self.assertIs(is_life((mended(0, 9, 0),), 0, life), False)
        self.assertIs(is_life((mended(0, 11, 0),), 0, life), False)
        self.assertIs(is_life((mended(0, 10, 1),), 0, life), False)
        self.assertIs(is_life((mended(1, 10, 0),), 0, life), False)
        self.assertIs(is_life((mended(0, 10, 0),), 0, ((0,),) * 31), False)
        self.assertIs(is_life((mended(0, 10, 0),), 0, ((0,),) * 10 + ((),) + ((0,),) * 20), True)
        self.assertIs(is_life((mended(0, 0, 0),), 0, ((0,),) * 31), False)
        self.assertIs(is_life((mended(0, 30, 0),), 0, ((0,),) * 30 + ((),)), True)

    def test_sheets_show_and_lack(self):
        book = (made(2, 10, (0,), (1,)),)
        for day in (0, 9, 10):
            self.assertIs(is_life(book, 2, ((),) * day + ((0,),) * (31 - day)), True)
            self.assertIs(is_life(book, 2, ((0,),) * day + ((0, 1),) * (31 - day)), False)
        self.assertIs(is_life(book, 2, ((),) * 11 + ((0,),) * 20), False)
        self.assertIs(is_life(book, 2, ((0,),) * 11 + ((0, 1),) * 20), True)
        self.assertIs(is_life(book, 1, ((),) * 31), True)

    def test_things_that_are_none(self):
        for book in BOOKS:
            for mould in range(4):
                life = most_life(book, mould)
                things = ODD_THINGS + [
                    0, (), life[:30], life + (EVERY,), life + ((),), list(life), [list(marks) for marks in life],
                    (life,), {0: life}, dict(enumerate(life)), (life,) * 31]
                for wrong in [None, True, False, 0, "", "0", [], {}, [0], list(life[5]), (8,), (-1,), (0, 0),
                              (1, 0), (True,), (False,), (None,), ("0",), ((),), ([],), life]:
                    things += [with_day(life, day, wrong) for day in (0, 5, 30)]
                for thing in things:
                    before = copy.deepcopy(thing)
                    self.assertIs(is_life(book, mould, thing), False, thing)
                    self.assertEqual(repr(thing), repr(before))

    def test_false_is_no_mark_of_a_life(self):
        self.assertIs(is_life((), 0, ((False,),) * 31), False)
        self.assertIs(is_life((), 0, ((0,),) * 30 + ((False,),)), False)
        self.assertIs(is_life((), 0, ((0, True),) * 31), False)
        self.assertIs(is_life((), 0, ([0],) * 31), False)


class Places(unittest.TestCase):
    """[23]"""

    def test_what_nothing_is_seen_of_may_be_anywhere(self):
        for book in BOOKS + STREWN_BOOKS:
            self.assertEqual(places_of(book, NOTHING_SEEN), [(mould, 0, 30) for mould in range(4)])
        self.assertIs(may_be(FULL_BOOK, 0, 0, NOTHING_SEEN), True)

    def test_by_no_pages_every_sheet_may_be_anywhere(self):
        for sheet in [((0,), (7,)), (EVERY, ()), ((), EVERY)]:
            self.assertEqual(places_of((), sheet), [(mould, 0, 30) for mould in range(4)])
            self.assertIs(may_be((), 3, 30, sheet), True)

    def test_stretches(self):
        book = lay(made(1, 5, (2,)), mended(1, 10, 2), made(1, 12, (), (2,)), made(1, 20, (2,)))
        self.assertEqual(places_of(book, ((2,), ())), [(0, 0, 30), (1, 0, 9), (1, 13, 30), (2, 0, 30), (3, 0, 30)])
        self.assertEqual(places_of(book, ((), (2,))), [(0, 0, 30), (1, 0, 4), (1, 10, 19), (2, 0, 30), (3, 0, 30)])
        self.assertEqual(places_of(book, ((1,), (3,))), [(mould, 0, 30) for mould in range(4)])

    def test_stretches_of_one_day(self):
        book = lay(mended(0, 1, 0), mended(0, 3, 0), mended(0, 29, 0))
        self.assertEqual(places_of(book, ((0,), ()))[:5],
                         [(0, 0, 0), (0, 2, 2), (0, 4, 28), (0, 30, 30), (1, 0, 30)])
        self.assertEqual(places_of((mended(0, 0, 0),), ((0,), ()))[0], (0, 1, 30))
        self.assertEqual(places_of((mended(0, 30, 0),), ((0,), ()))[0], (0, 0, 29))

    def test_both_halves_count(self):
        book = lay(made(0, 10, (), (0,)), made(0, 20, (1,)))
        self.assertEqual(places_of(book, ((0,), (1,)))[0], (0, 11, 19))
        self.assertEqual(places_of(book, ((0,), ()))[0], (0, 11, 30))
        self.assertEqual(places_of(book, ((), (1,)))[0], (0, 0, 19))

    def test_a_sheet_that_goes_nowhere(self):
        book = lay(*[made(mould, 30, (), (0,)) for mould in range(4)])
        self.assertEqual(places_of(book, ((0,), ())), [])
        for mould, day in itertools.product(range(4), range(31)):
            self.assertIs(may_be(book, mould, day, ((0,), ())), False)

    def test_a_page_that_is_there_already_may_be(self):
        for book in BOOKS + STREWN_BOOKS:
            for page in book:
                if page[0] == "made":
                    self.assertIs(may_be(book, *page[1:]), True)

    def test_a_book_of_24_pages(self):
        self.assertEqual(len(FULL_BOOK), 24)
        for day in range(31):
            self.assertIs(may_be(FULL_BOOK, 0, day, ((0,), (5,))), True)
            self.assertIs(may_be(FULL_BOOK, 0, day, ((), (0,))), day < 12)
            self.assertIs(may_be(FULL_BOOK, 0, day, ((1,), ())), day > 23)
        self.assertEqual(places_of(FULL_BOOK, ((1,), (2,))), [(0, 24, 30), (1, 0, 30), (2, 0, 30), (3, 0, 30)])
        self.assertEqual(places_of(FULL_BOOK, ((1,), (0,))), [(1, 0, 30), (2, 0, 30), (3, 0, 30)])

    def test_on_the_day_of_a_mending(self):
        book = (mended(0, 10, 3),)
        self.assertEqual([day for day in range(31) if not may_be(book, 0, day, ((3,), ()))], [10])
        self.assertTrue(all(may_be(book, 0, day, ((), (3,))) for day in range(31)))

    def test_strewn_books(self):
        chance = random.Random(5)
        answers = {True: 0, False: 0}
        for book in BOOKS + STREWN_BOOKS[:40]:
            sheet = some_sheet(chance, 3)
            self.assertEqual(places_of(book, sheet), oracle.places_of(book, sheet), (book, sheet))
            for turn in range(40):
                mould, day, sheet = chance.randrange(4), chance.randrange(31), some_sheet(chance, 3)
                wanted = oracle.may_be(book, mould, day, sheet)
                self.assertIs(may_be(book, mould, day, sheet), wanted, (book, mould, day, sheet))
                answers[wanted] += 1
        self.assertGreater(min(answers.values()), 100)

    def test_lists_are_new(self):
        for book in BOOKS:
            first = places_of(book, ((0,), ()))
            second = places_of(book, ((0,), ()))
            self.assertIsInstance(first, list)
            self.assertIsNot(first, second)
            first.append(None)
            self.assertEqual(places_of(book, ((0,), ())), second)


# For each kind of argument: right things, wrong things, and the refusal that is due.
RIGHT = {"book": BOOKS[2], "mould": 0, "day": 10, "sheet": ((0,), (1,)), "thing": None}
WRONG = {"book": WRONG_BOOKS, "mould": WRONG_MOULDS, "day": WRONG_DAYS, "sheet": WRONG_SHEETS}
DUE = {"book": NoBook, "mould": NoMould, "day": NoDay, "sheet": NoSheet}
CALLS = [(surely, ["book", "mould", "day"]), (is_life, ["book", "mould", "thing"]), (least_life, ["book", "mould"]),
         (most_life, ["book", "mould"]), (may_be, ["book", "mould", "day", "sheet"]), (places_of, ["book", "sheet"])]


class Refusals(Asking, unittest.TestCase):
    """[4], [5]"""

    def test_each_wrong_thing_by_itself(self):
        self.each_refused(CALLS, RIGHT, WRONG, DUE)

    def test_the_leftmost_of_several_is_refused(self):
        self.leftmost_refused(CALLS, RIGHT, WRONG, DUE)

    def test_a_faulty_book_is_none(self):
        for laid in FAULTY:
            self.refused(NoBook, surely, [laid, 4, 31])
            self.refused(NoBook, may_be, [laid, 0, 0, NOTHING_SEEN])
            self.refused(NoBook, places_of, [laid, NOTHING_SEEN])
            self.refused(NoBook, is_life, [laid, 3, ((),) * 31])

    def test_bounds_of_moulds_and_days(self):
        for mould in (0, 3):
            for day in (0, 30):
                self.assertIs(may_be((), mould, day, NOTHING_SEEN), True)
                self.assertEqual(surely((), mould, day), NOTHING_SEEN)
        for mould in (-1, 4, True, False, None, "0", [0]):
            self.refused(NoMould, least_life, [(), mould])
            self.refused(NoMould, most_life, [(), mould])
        for day in (-1, 31, True, False, None, "0", [0]):
            self.refused(NoDay, surely, [(), 0, day])
            self.refused(NoDay, may_be, [(), 0, day, NOTHING_SEEN])

    def test_asked_again_the_answer_is_the_same(self):
        for deed, names in CALLS:
            for book in BOOKS:
                handed = [book if name == "book" else RIGHT[name] for name in names]
                before = copy.deepcopy(handed)
                first = deed(*handed)
                self.assertEqual(deed(*handed), first)
                self.assertEqual(handed, before)

    def test_what_is_told_is_of_its_kind(self):
        for book in BOOKS:
            self.assertIs(is_book(book), True)
            self.assertIsInstance(surely(book, 0, 0), tuple)
            self.assertIsInstance(least_life(book, 0), tuple)
            self.assertIsInstance(most_life(book, 0), tuple)
            self.assertTrue(all(isinstance(place, tuple) for place in places_of(book, NOTHING_SEEN)))


if __name__ == "__main__":
    unittest.main()
