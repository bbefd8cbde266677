import itertools
import random
import unittest

from tests import keepers
from tests.asking import Asking
from tests.samples import (BOOKS, FAULTY, FULL_BOOK, NOTHING_SEEN, ODD_THINGS, WRONG_BOOKS, lay, made, mended,
                           strewn_pages)
from twinmoulds import texts
from twinmoulds.errors import NoBook, NoText
from twinmoulds.pages import is_book
from twinmoulds.texts import book_text, read_book

CALLS = [(book_text, ["book"]), (read_book, ["text"])]
EVERY = tuple(range(8))
STREWN_BOOKS = [pages for pages in strewn_pages(300) if is_book(pages)]
SIGNS = ["", " ", "\t", "\n", "-", "/", "0", "1", "3", "7", "9", "m", "M", "+", ".", ",", "~", "!", "_"]

# Each writes a page but for one thing.
WRONG_LINES = [
    "", " ", "    ", "-", "0", "made", "mended", "made 0 0", "mended 0 0", "0 0 -/-", "made 0 0 -/- 0",
    "mended 0 0 0 0", "made  0 0 -/-", "made 0  0 -/-", "made 0 0  -/-", " made 0 0 -/-", "made 0 0 -/- ",
    "made 0 0 - /-", "made 0 0 -/ -", "made 00 -/-", "made0 0 -/-", "made 0 0-/-", "mended 0 00", "made\t0 0 -/-",
    "made 0\t0 -/-", "made 0 0\t-/-", "made 0 0 -/-\t", "\tmade 0 0 -/-", "mended 0 0\t0", "mended 0 0 0 ",
    " mended 0 0 0", "mended  0 0 0", "made 00 0 -/-", "made 0 00 -/-", "made 0 05 -/-", "mended 01 0 0",
    "mended 0 01 0", "mended 0 0 00", "mended 0 0 01", "made 4 0 -/-", "made 0 31 -/-", "made 0 100 -/-",
    "mended 4 0 0", "mended 0 31 0", "mended 0 0 8", "mended 0 0 10", "made -1 0 -/-", "made 0 -1 -/-",
    "made +0 0 -/-", "made 0 +1 -/-", "mended 0 0 -1", "mended 0 0 +1", "mended 0 0 -", "made - 0 -/-",
    "made 0 - -/-", "mended - 0 0", "mended 0 - 0", "made 0 1_0 -/-", "made 0 1.0 -/-", "made 0 0x1 -/-",
    "made " + "1" * 30 + " 0 -/-", "made 0 " + "2" * 30 + " -/-", "mended 0 0 " + "9" * 30,
    "made " + "0" * 30 + " 0 -/-", "made 0 " + "1" * 200 + " -/-", "made 0 0 " + "0" * 30 + "/-",
    "made 0 0 -/" + "7" * 31, "mended 0 0 " + "0" * 31, "made 0 0 10/-", "made 0 0 -/76", "made 0 0 021/-",
    "made 0 0 00/-", "made 0 0 -/77", "made 0 0 0/0", "made 0 0 012/2", "made 0 0 7/07", "made 0 0 01234567/7",
    "made 0 0 8/-", "made 0 0 -/8", "made 0 0 9/-", "made 0 0 012345678/-", "made 0 0 --/-", "made 0 0 -/--",
    "made 0 0 0-/-", "made 0 0 -0/-", "made 0 0 -/-1", "made 0 0 /", "made 0 0 0/", "made 0 0 /0", "made 0 0 -",
    "made 0 0 0", "made 0 0 -//-", "made 0 0 -/-/-", "made 0 0 0/1/2", "made 0 0 -\\-", "made 0 0 -|-",
    "made 0 0 0,1/-", "made 0 0 0 1/-", "made 0 0 (0)/-", "made 0 0 /-/-", "made 0 0 -/-/", "made 0 0 a/-",
    "made 0 0 -/o", "made 0 0 none", "Made 0 0 -/-", "MADE 0 0 -/-", "mad 0 0 -/-", "maded 0 0 -/-", "mend 0 0 0",
    "Mended 0 0 0", "made 0 0 3", "mended 0 0 3/-", "mended 0 0 -/-", "mended 0 0 3/", "out 0 0 -/-",
    "out made 0 0 -/-", "undo", "book", "surely 0 0", "none", "ok", "made 0 0 -/-;", "#made 0 0 -/-", "made M D -/-",
    "\"made 0 0 -/-\"", "('made', 0, 0, ((), ()))",
]


def shuffled(text, chance):
    lines = text.splitlines(keepends=True)
    chance.shuffle(lines)
    return "".join(lines)


class Interface(Asking, unittest.TestCase):
    def test_names_and_arguments(self):
        self.named(texts, CALLS)


class Writing(Asking, unittest.TestCase):
    """[72]"""

    def written(self, wanted, *pages):
        book = lay(*pages)
        self.assertEqual(self.own_answer(book_text, book), wanted)
        self.assertEqual(self.own_answer(read_book, wanted), book)

    def test_no_pages(self):
        self.written("")

    def test_one_page(self):
        self.written("made 0 0 -/-\n", made(0, 0))
        self.written("made 3 30 01234567/-\n", made(3, 30, EVERY))
        self.written("made 1 9 -/01234567\n", made(1, 9, (), EVERY))
        self.written("made 2 10 0246/1357\n", made(2, 10, (0, 2, 4, 6), (1, 3, 5, 7)))
        self.written("made 2 10 7/0\n", made(2, 10, (7,), (0,)))
        self.written("mended 0 0 0\n", mended(0, 0, 0))
        self.written("mended 3 30 7\n", mended(3, 30, 7))

    def test_several_pages(self):
        self.written("made 1 5 2/-\nmade 1 12 -/2\nmade 1 20 2/0\nmended 1 10 2\n",
                     made(1, 5, (2,)), mended(1, 10, 2), made(1, 12, (), (2,)), made(1, 20, (2,), (0,)))

    def test_pages_stand_by_their_numbers_and_not_by_their_texts(self):
        self.written("made 0 2 -/-\nmade 0 10 -/-\nmended 0 2 0\nmended 0 10 0\n",
                     made(0, 10), made(0, 2), mended(0, 10, 0), mended(0, 2, 0))
        self.written("made 0 0 -/1\nmade 0 0 0/-\n", made(0, 0, (0,)), made(0, 0, (), (1,)))

    def test_each_mould_day_and_mark(self):
        for mould, day in itertools.product(range(4), range(31)):
            self.written(f"made {mould} {day} -/-\n", made(mould, day))
            for mark in range(8):
                self.written(f"mended {mould} {day} {mark}\n", mended(mould, day, mark))

    def test_each_sheet(self):
        for text, (has, lacks) in keepers.SHEETS_BY_TEXT.items():
            book = (made(2, 20, has, lacks),)
            self.assertEqual(book_text(book), f"made 2 20 {text}\n")
            self.assertEqual(read_book(f"made 2 20 {text}\n"), book)

    def test_24_pages(self):
        text = book_text(FULL_BOOK)
        self.assertEqual(text.count("\n"), 24)
        self.assertEqual(text.splitlines()[11:13], ["made 0 11 -/1", "made 0 12 0/1"])
        self.assertEqual(read_book(text), FULL_BOOK)
        longest = lay(*[made(mould, day, EVERY) for mould in range(4) for day in range(20, 26)])
        self.assertEqual(len(book_text(longest)), 24 * len("made 0 20 01234567/-\n"))
        self.assertEqual(read_book(book_text(longest)), longest)

    def test_read_again_it_is_the_same_book_in_any_order(self):
        chance = random.Random(72)
        self.assertGreater(len(STREWN_BOOKS), 60)
        for book in BOOKS + STREWN_BOOKS:
            text = self.own_answer(book_text, book)
            self.assertIsInstance(text, str)
            self.assertEqual(text, keepers.book_text(book))
            for told in [text, shuffled(text, chance), shuffled(text, chance)]:
                self.assertEqual(self.own_answer(read_book, told), book)

    def test_every_order_of_four_pages(self):
        book = BOOKS[4]
        for lines in itertools.permutations(book_text(book).splitlines(keepends=True)):
            self.assertEqual(read_book("".join(lines)), book)


class NoTexts(Asking, unittest.TestCase):
    """[72]"""

    def no_text(self, thing):
        self.refused(NoText, read_book, [thing])

    def is_read(self, told):
        """What the plain reading tells of a text, a book or none, the program tells."""
        wanted = keepers.read_book(told)
        if wanted is None:
            self.no_text(told)
        else:
            self.assertEqual(read_book(told), wanted)
        return wanted is not None

    def test_a_page_twice(self):
        self.no_text("made 0 0 -/-\n" * 2)
        self.no_text("mended 0 0 0\nmade 0 0 -/-\nmended 0 0 0\n")
        for book in BOOKS[1:]:
            self.no_text(book_text(book) + book_text(book[:1]))

    def test_pages_that_clash(self):
        for laid in FAULTY:
            self.no_text(keepers.book_text(laid))
            self.no_text(keepers.book_text(laid[::-1]))
        self.no_text("made 0 5 1/-\nmade 0 6 -/1\n")
        self.no_text("mended 2 3 4\nmade 2 3 4/-\n")

    def test_twenty_five_pages(self):
        for page in ["made 0 24 -/-\n", "mended 3 30 7\n", "made 0 0 -/-\n"]:
            self.no_text(book_text(FULL_BOOK) + page)
            self.no_text(page + book_text(FULL_BOOK))
        lines = [f"mended {mould} 0 {mark}\n" for mould in range(4) for mark in range(8)]
        self.assertEqual(len(read_book("".join(lines[:24]))), 24)
        self.no_text("".join(lines[:25]))
        self.no_text("".join(lines))

    def test_line_ends(self):
        for book in BOOKS[1:] + STREWN_BOOKS[:30]:
            text = book_text(book)
            if text:
                for wrong in [text[:-1], text + "\n", "\n" + text, text.replace("\n", "\n\n"),
                              text.replace("\n", " \n"), text.replace("\n", "\n "), text.replace("\n", "\t"),
                              text + " ", text + "-"]:
                    self.no_text(wrong)
        self.no_text("\n")
        self.no_text("\n\n")
        self.no_text("made 0 0 -/-\n\nmade 0 1 -/-\n")
        self.no_text("made 0 0 -/-\nmade 0 1 -/-")
        self.no_text("made 0 0 -/- made 0 1 -/-\n")
        self.no_text("made 0 0 -/-\r\n")
        self.no_text("made 0 0 -/-\n\r")
        self.no_text("made 0 0 -/-\r")

    def test_lines_that_write_no_page(self):
        for line in WRONG_LINES:
            self.assertIsNone(keepers.read_page(line), line)
            self.no_text(line + "\n")
            self.no_text(line + "\n" + line)
            self.no_text(f"made 1 1 1/-\n{line}\nmended 1 2 1\n")
            self.no_text(f"{line}\nmade 1 1 1/-\n")
            self.no_text(f"made 1 1 1/-\n{line}\n")

    def test_signs_that_are_no_figures(self):
        for figure in [chr(sign) for sign in range(32, 127) if chr(sign) not in "0123456789"]:
            self.no_text(f"made {figure} 0 -/-\n")
            self.no_text(f"made 0 1{figure} -/-\n")
            self.no_text(f"made 0 0 1{figure}/-\n")
            self.no_text(f"mended 0 0 {figure}\n")

    def test_figures_of_other_scripts_are_none(self):
        for figure in "\u00b2\u0661\u06f3\uff11":
            self.no_text(f"made {figure} 0 -/-\n")
            self.no_text(f"made 0 {figure} -/-\n")
            self.no_text(f"made 0 0 {figure}/-\n")
            self.no_text(f"mended 0 0 {figure}\n")

    def test_a_text_of_blanks(self):
        for many in (1, 2, 3, 30, 200, 900):
            for sign in " \t\n-/0":
                self.no_text(sign * many)

    def test_long_texts(self):
        for text in ["0" * 900, "made " * 180, "made 0 " + "1" * 890, "made 0 0 " + "1" * 450 + "/" + "2" * 440 + "\n",
                     "mended 0 0 " + "9" * 880 + "\n", "1" * 5000 + "\n", "made 0 " + "1" * 5000 + " -/-\n"]:
            self.no_text(text)

    def test_a_sign_more_fewer_or_another_at_any_place(self):
        seen = {True: 0, False: 0}
        for book in [BOOKS[1], BOOKS[3], BOOKS[4], BOOKS[6]]:
            text = book_text(book)
            for at, sign, cut in itertools.product(range(len(text) + 1), SIGNS, (0, 1)):
                told = text[:at] + sign + text[at + cut:]
                if told == text:
                    continue
                seen[self.is_read(told)] += 1
        self.assertGreater(min(seen.values()), 100)

    def test_two_signs_changed(self):
        chance = random.Random(9)
        seen = {True: 0, False: 0}
        for turn in range(6000):
            told = book_text(chance.choice(BOOKS[1:9]))
            for change in range(2):
                at = chance.randrange(len(told) + 1)
                told = told[:at] + chance.choice(SIGNS + list("01234567")) + told[at + chance.randrange(2):]
            seen[self.is_read(told)] += 1
        self.assertGreater(min(seen.values()), 30)

    def test_what_is_no_text(self):
        for thing in ODD_THINGS + [0, (), ("",), [""], ["made 0 0 -/-\n"], ("made 0 0 -/-\n",), {"": ""}, {"\n": 1},
                                   FULL_BOOK, list(FULL_BOOK), BOOKS[1], NOTHING_SEEN]:
            if thing != "":
                self.no_text(thing)
        for thing in [None, True, False, 0, 7, 10 ** 30 - 1, [], (), {}]:
            self.no_text(thing)


class NoBooks(Asking, unittest.TestCase):
    """[5]"""

    def test_what_is_no_book(self):
        for thing in WRONG_BOOKS + ["made 0 0 -/-\n"]:
            self.refused(NoBook, book_text, [thing])

    def test_faulty_pages(self):
        for laid in FAULTY:
            self.refused(NoBook, book_text, [laid])


if __name__ == "__main__":
    unittest.main()
