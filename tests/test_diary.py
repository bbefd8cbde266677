import inspect
import itertools
import random
import unittest

from tests import keepers
from tests.asking import Asking
from tests.samples import BOOKS, FULL_BOOK, WRONG_PAGES, lay, made, mended, some_sheet
from twinmoulds.diary import Diary
from twinmoulds.errors import Clash, NoDeed, NoPage
from twinmoulds.lives import surely
from twinmoulds.pages import is_book

SHOWN = made(1, 5, (2,))
MENDING = mended(1, 10, 2)
LACKED = made(1, 12, (), (2,))


def diary_of(*pages):
    diary = Diary()
    for page in pages:
        diary.tell(page)
    return diary


class Interface(unittest.TestCase):
    def test_names_and_arguments(self):
        self.assertEqual(list(inspect.signature(Diary).parameters), [])
        for name, wanted in [("tell", ["page"]), ("strike", ["page"]), ("undo", []), ("book_now", [])]:
            self.assertEqual(list(inspect.signature(getattr(Diary(), name)).parameters), wanted, name)


class Keeping(Asking, unittest.TestCase):
    """[71]"""

    def clash(self, diary, word, page):
        """The deed is refused, changes nothing, and is no deed to undo."""
        before = diary.book_now()
        self.refused(Clash, getattr(diary, word), [page])
        self.assertEqual(diary.book_now(), before)

    def test_at_first_there_are_no_pages(self):
        self.assertEqual(Diary().book_now(), ())
        self.assertIs(is_book(Diary().book_now()), True)

    def test_deeds_tell_none(self):
        diary = Diary()
        self.assertIsNone(diary.tell(SHOWN))
        self.assertIsNone(diary.strike(SHOWN))
        self.assertIsNone(diary.undo())

    def test_pages_told_in_any_order(self):
        pages = [SHOWN, MENDING, made(0, 30), mended(0, 0, 7)]
        for told in itertools.permutations(pages):
            self.assertEqual(diary_of(*told).book_now(), lay(*pages))
        for book in BOOKS:
            # Mendings ahead of all, else what comes between may clash.
            told = sorted(book, key=lambda page: page[0] == "made")
            self.assertEqual(diary_of(*told).book_now(), book)
            self.assertEqual(diary_of(*reversed(told[len(told) // 2:]), *told[:len(told) // 2]).book_now(), book)

    def test_a_page_that_is_there(self):
        diary = diary_of(SHOWN, MENDING, LACKED)
        for page in (SHOWN, MENDING, LACKED):
            self.clash(diary, "tell", page)

    def test_pages_of_which_no_book_comes(self):
        self.clash(diary_of(SHOWN), "tell", LACKED)
        self.clash(diary_of(LACKED), "tell", SHOWN)
        self.clash(diary_of(SHOWN), "tell", mended(1, 5, 2))
        self.clash(diary_of(mended(1, 5, 2)), "tell", SHOWN)
        self.clash(diary_of(SHOWN), "tell", made(1, 5, (), (2,)))
        self.clash(diary_of(made(3, 0, (7,))), "tell", made(3, 30, (), (7,)))

    def test_what_clashed_is_told_behind_a_mending(self):
        diary = diary_of(SHOWN)
        self.clash(diary, "tell", LACKED)
        diary.tell(MENDING)
        diary.tell(LACKED)
        self.assertEqual(diary.book_now(), lay(SHOWN, MENDING, LACKED))

    def test_a_twenty_fifth_page(self):
        diary = diary_of(*FULL_BOOK)
        self.assertEqual((diary.book_now(), len(diary.book_now())), (FULL_BOOK, 24))
        for page in [made(0, 24), made(3, 0), mended(3, 0, 0), mended(0, 30, 7)]:
            self.clash(diary, "tell", page)
        diary.strike(FULL_BOOK[7])
        diary.tell(made(0, 24))
        self.assertEqual(diary.book_now(), FULL_BOOK[:7] + FULL_BOOK[8:] + (made(0, 24),))
        self.clash(diary, "tell", FULL_BOOK[7])

    def test_pages_struck_out(self):
        for book in BOOKS:
            for page in book:
                left = tuple(other for other in book if other != page)
                diary = diary_of(*sorted(book, key=lambda other: other[0] == "made"))
                if is_book(left):
                    diary.strike(page)
                    self.assertEqual(diary.book_now(), left)
                else:
                    self.clash(diary, "strike", page)

    def test_a_page_that_is_not_there(self):
        self.clash(Diary(), "strike", SHOWN)
        diary = diary_of(SHOWN, MENDING)
        for page in [LACKED, made(1, 5, (2,), (3,)), made(1, 5), made(0, 5, (2,)), made(1, 6, (2,)),
                     mended(1, 10, 3), mended(1, 11, 2), mended(2, 10, 2)]:
            self.clash(diary, "strike", page)
        diary.strike(SHOWN)
        self.clash(diary, "strike", SHOWN)

    def test_a_mending_without_which_no_book_is_left(self):
        diary = diary_of(SHOWN, MENDING, LACKED)
        self.clash(diary, "strike", MENDING)
        diary.tell(mended(1, 11, 2))
        diary.strike(MENDING)
        self.assertEqual(diary.book_now(), lay(SHOWN, mended(1, 11, 2), LACKED))
        diary.strike(LACKED)
        diary.strike(mended(1, 11, 2))
        self.assertEqual(diary.book_now(), (SHOWN,))

    def test_two_diaries(self):
        one, other = Diary(), Diary()
        one.tell(SHOWN)
        self.assertEqual((one.book_now(), other.book_now()), ((SHOWN,), ()))
        self.refused(NoDeed, other.undo, [])
        other.tell(LACKED)
        other.tell(made(2, 2))
        one.undo()
        self.assertEqual((one.book_now(), other.book_now()), ((), lay(LACKED, made(2, 2))))
        self.refused(Clash, one.strike, [LACKED])


class Undoing(Asking, unittest.TestCase):
    """[71]"""

    def test_none_stands_at_first(self):
        diary = Diary()
        self.refused(NoDeed, diary.undo, [])
        self.refused(NoDeed, diary.undo, [])
        self.assertEqual(diary.book_now(), ())

    def test_a_page_that_was_told(self):
        diary = diary_of(SHOWN, MENDING)
        diary.undo()
        self.assertEqual(diary.book_now(), (SHOWN,))
        diary.undo()
        self.assertEqual(diary.book_now(), ())

    def test_a_page_that_was_struck_out(self):
        diary = diary_of(SHOWN, MENDING)
        diary.strike(SHOWN)
        diary.undo()
        self.assertEqual(diary.book_now(), (SHOWN, MENDING))
        diary.undo()
        self.assertEqual(diary.book_now(), (SHOWN,))

    def test_several_one_behind_another(self):
        diary = Diary()
        books = [()]
        for word, page in [("tell", SHOWN), ("tell", MENDING), ("tell", LACKED), ("strike", SHOWN),
                           ("strike", MENDING), ("tell", made(1, 30, (2,))), ("strike", LACKED)]:
            getattr(diary, word)(page)
            books.append(diary.book_now())
        self.assertEqual(len(set(books)), 8)
        for book in reversed(books):
            self.assertEqual(diary.book_now(), book)
            if book:
                diary.undo()
        self.refused(NoDeed, diary.undo, [])
        self.assertEqual(diary.book_now(), ())

    def test_undoing_is_no_deed_that_is_undone(self):
        diary = diary_of(SHOWN, MENDING, LACKED)
        diary.undo()
        diary.undo()
        self.assertEqual(diary.book_now(), (SHOWN,))

    def test_more_often_than_deeds_stand(self):
        for many in range(5):
            diary = diary_of(*FULL_BOOK[:many])
            for turn in range(many):
                diary.undo()
            for turn in range(2):
                self.refused(NoDeed, diary.undo, [])
                self.assertEqual(diary.book_now(), ())

    def test_deeds_done_again(self):
        diary = diary_of(SHOWN, MENDING)
        diary.undo()
        diary.tell(MENDING)
        diary.tell(LACKED)
        self.assertEqual(diary.book_now(), lay(SHOWN, MENDING, LACKED))
        for turn in range(3):
            diary.undo()
        self.refused(NoDeed, diary.undo, [])
        diary.tell(LACKED)
        self.assertEqual(diary.book_now(), (LACKED,))
        diary.undo()
        self.assertEqual(diary.book_now(), ())
        self.refused(NoDeed, diary.undo, [])

    def test_a_deed_behind_an_undone_one(self):
        diary = diary_of(SHOWN, MENDING)
        diary.undo()
        diary.tell(made(0, 0))
        diary.undo()
        self.assertEqual(diary.book_now(), (SHOWN,))

    def test_what_is_refused_is_no_deed(self):
        diary = diary_of(SHOWN)
        for word, page, due in [("tell", SHOWN, Clash), ("tell", LACKED, Clash), ("strike", LACKED, Clash),
                                ("tell", None, NoPage), ("strike", (), NoPage)]:
            self.refused(due, getattr(diary, word), [page])
        diary.undo()
        self.assertEqual(diary.book_now(), ())
        self.refused(NoDeed, diary.undo, [])

    def test_more_deeds_than_a_book_has_pages(self):
        diary = Diary()
        for turn in range(100):
            diary.tell(SHOWN)
            diary.strike(SHOWN)
        for turn in range(199):
            diary.undo()
        self.assertEqual(diary.book_now(), (SHOWN,))
        diary.undo()
        self.refused(NoDeed, diary.undo, [])


class Strewn(Asking, unittest.TestCase):
    def test_strewn_deeds(self):
        chance = random.Random(71)
        seen = {(word, due): 0 for word, due in [("tell", None), ("tell", Clash), ("strike", None), ("strike", Clash),
                                                 ("undo", None), ("undo", NoDeed)]}
        for turn in range(40):
            diary, plain = Diary(), keepers.Diary()
            for step in range(40):
                word = chance.choice(["tell", "tell", "tell", "strike", "undo"])
                mould, day = chance.randrange(2), chance.randrange(4)
                page = chance.choice([made(mould, day, *some_sheet(chance, 2)),
                                      mended(mould, day, chance.randrange(2))])
                if word == "strike" and plain.book() and chance.random() < 0.8:
                    page = chance.choice(plain.book())
                handed = [] if word == "undo" else [page]
                due = plain.do(word, *handed)
                if due:
                    self.refused(due, getattr(diary, word), handed)
                else:
                    self.assertIsNone(getattr(diary, word)(*handed))
                seen[word, due] += 1
                self.assertEqual(diary.book_now(), plain.book())
                self.assertIs(is_book(diary.book_now()), True)
        self.assertGreater(min(seen.values()), 10)


class Refusals(Asking, unittest.TestCase):
    """[4], [5]"""

    def test_no_pages(self):
        diary = diary_of(*BOOKS[1])
        for page in WRONG_PAGES:
            self.refused(NoPage, diary.tell, [page])
            self.refused(NoPage, diary.strike, [page])
        self.assertEqual(diary.book_now(), BOOKS[1])
        diary.undo()
        self.refused(NoDeed, diary.undo, [])

    def test_no_page_is_refused_ahead_of_a_clash(self):
        diary = diary_of(*FULL_BOOK)
        for page in [("made", 0, 0, ((), (True,))), ("made", 0, False, ((), (1,))), list(FULL_BOOK[0])]:
            self.refused(NoPage, diary.tell, [page])
            self.refused(NoPage, diary.strike, [page])
        self.assertEqual(diary.book_now(), FULL_BOOK)

    def test_a_told_book_stays_as_it_was(self):
        diary = diary_of(SHOWN)
        told = diary.book_now()
        diary.tell(MENDING)
        diary.strike(SHOWN)
        self.assertEqual((told, diary.book_now()), ((SHOWN,), (MENDING,)))

    def test_asked_again_the_answer_is_the_same(self):
        diary = diary_of(SHOWN, MENDING)
        self.assertEqual(self.own_answer(diary.book_now), (SHOWN, MENDING))
        self.assertEqual(surely(diary.book_now(), 1, 7), ((2,), ()))
        self.assertEqual(self.own_answer(diary.book_now), (SHOWN, MENDING))
        self.assertIsInstance(diary.book_now(), tuple)


if __name__ == "__main__":
    unittest.main()
