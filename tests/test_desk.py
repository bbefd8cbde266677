import inspect
import itertools
import random
import unittest

from tests import keepers
from tests.asking import Asking
from tests.samples import BOOKS, FAULTY, FULL_BOOK, ODD_THINGS, made, some_sheet
from twinmoulds.desk import Desk
from twinmoulds.diary import Diary
from twinmoulds.errors import Clash, NoDay, NoDeed, NoMould, NoPage, NoRow, NoSheet
from twinmoulds.lives import surely
from twinmoulds.texts import book_text, read_book

ROWS = ["made 1 5 2/-", "mended 1 10 2", "made 1 12 -/2", "made 1 20 2/0"]
WRITTEN = "made 1 5 2/-\nmade 1 12 -/2\nmade 1 20 2/0\nmended 1 10 2\n"
THIRTY = "1" * 30
THIRTY_ONE = "1" * 31
SIGNS = ["", " ", "\t", "\n", "-", "/", "0", "1", "4", "8", "m", "O", "+", ".", ","]

# Each stands as a page does, and makes none.
NO_PAGES = [
    "made 4 0 -/-", "made 10 0 -/-", "made 0 31 -/-", "made 0 100 -/-", "mended 4 0 0", "mended 0 31 0", "mended 0 0 8",
    "mended 0 0 10", f"made {THIRTY} 0 -/-", f"made 0 {THIRTY} -/-", f"mended {THIRTY} 0 0", f"mended 0 {THIRTY} 0",
    f"mended 0 0 {THIRTY}", f"made {THIRTY} {THIRTY} {THIRTY}/{THIRTY}",
    "made 0 0 8/-", "made 0 0 -/9", "made 0 0 018/-", "made 0 0 10/-", "made 0 0 -/76", "made 0 0 021/-",
    "made 0 0 00/-", "made 0 0 -/77", "made 0 0 0122/-", "made 0 0 0/0", "made 0 0 012/2", "made 0 0 7/07",
    "made 0 0 01234567/7", "made 0 0 012345678/-", f"made 0 0 {THIRTY}/-", f"made 0 0 -/{THIRTY}",
    "made 0 0 " + "0" * 30 + "/-", "made 4 31 8/8", "mended 4 31 8",
]

NO_ROWS = [
    "", " ", "  ", "\n", "\t", "-", "/", "0", "ok", "none", "help", "made", "mended", "out", "surely", "where",
    "undo ", " undo", "undo\n", "undo\t", "\nundo", "undo undo", "undo 0", "undo 1", "Undo", "UNDO", "und", "undoo",
    "book ", " book", "book\n", "book 0", "book book", "Book", "boo", "books", "surely ", "surely 0", "surely 0 0 0",
    "surely  0 0", "surely 0  0", "surely 0 0 ", " surely 0 0", "surely\t0 0", "surely 0\t0", "surely 0 0\n",
    "surely 00 0", "surely 0 00", "surely 0 01", "surely -1 0", "surely 0 -1", "surely +1 0", "surely - 0",
    "surely 0 -", "surely 0,0", "surely M D", f"surely {THIRTY_ONE} 0", f"surely 0 {THIRTY_ONE}", "surely 0 0x1",
    "surely 0 1.0", "surely 0 1_0", "Surely 0 0", "sure 0 0", "surely a 0", "surely 0 b", "where ", "where -",
    "where 0", "where /", "where 0/", "where /0", "where -/-/-", "where -//-", "where -/- ", " where -/-",
    "where  -/-", "where -/- -/-", "where - / -", "where\t-/-", "where -/-\n", "where 0-/-", "where --/-",
    "where -/-0", f"where {THIRTY_ONE}/-", f"where -/{THIRTY_ONE}", "where +1/-", "where 0,1/-", "where 0 1",
    "Where -/-", "wher -/-", "where a/-", "where -/b", "where 0.1/-", "made 0 0", "made 0 -/-", "made 0 0 -/- 0",
    "made 0 0 0", "made 0 0 -", "made  0 0 -/-", "made 0  0 -/-", "made 0 0  -/-", " made 0 0 -/-", "made 0 0 -/- ",
    "made\t0 0 -/-", "made 0 0\t-/-", "made 0 0 -/-\n", "made 0 0 -/-\t", "made 0 0 -/-\nmade 0 1 -/-",
    "made 00 0 -/-", "made 0 00 -/-", "made 0 05 -/-", "made 04 0 -/-", "made 0 031 -/-", f"made {THIRTY_ONE} 0 -/-",
    f"made 0 {THIRTY_ONE} -/-", f"made 0 0 {THIRTY_ONE}/-", f"made 0 0 -/{THIRTY_ONE}", "made 0 0 " + "0" * 31 + "/-",
    "made -1 0 -/-", "made 0 -1 -/-", "made +0 0 -/-", "made 0 +0 -/-", "made 0 0 -1/-", "made 0 0 -/+1",
    "made - 0 -/-", "made 0 - -/-", "made 0 0 /-", "made 0 0 -/", "made 0 0 /", "made 0 0 0/1/2", "made 0 0 -- /-",
    "made 0 0 --/-", "made 0 0 0 1/-", "made 0 0 a/-", "Made 0 0 -/-", "mad 0 0 -/-", "makes 0 0 -/-",
    "made 0 0 -/-.", "made,0,0,-/-", "mended 0 0", "mended 0 0 0 0", "mended 0 0 -", "mended 0 0 -/-",
    "mended 0 0 0/1", "mended 0 0 00", "mended 0 0 07", "mended 0 0 08", "mended 00 0 0", "mended 0 00 0",
    "mended 0 0 -1", "mended 0 0 +1", f"mended 0 0 {THIRTY_ONE}", f"mended {THIRTY_ONE} 0 0",
    f"mended 0 {THIRTY_ONE} 0", "mended  0 0 0", "mended 0 0 0 ", " mended 0 0 0", "mended 0 0\t0", "mended 0 0 0\n",
    "Mended 0 0 0", "mend 0 0 0", "mended 0 0 a", "out ", "out out", "out undo", "out book", "out surely 0 0",
    "out where -/-", "out 0 0 -/-", "out  made 0 0 -/-", "out made 0 0 -/- ", " out made 0 0 -/-",
    "out out made 0 0 -/-", "out\tmade 0 0 -/-", "outmade 0 0 -/-", "made 0 0 -/- out", "Out made 0 0 -/-",
    "out made 0 00 -/-", f"out made 0 {THIRTY_ONE} -/-", "out mended 0 0", "out mended 0 0 -", "out mended 0 0 0 0",
    "out made 0 0", "out Made 0 0 -/-", "undo made 0 0 -/-", "book made 0 0 -/-", " " * 200, "0" * 200, "made " * 40,
    "undo " * 40,
]


def told(*rows):
    desk = Desk()
    for row in rows:
        desk.say(row)
    return desk


class Interface(unittest.TestCase):
    def test_names_and_arguments(self):
        self.assertEqual(list(inspect.signature(Desk).parameters), [])
        self.assertEqual(list(inspect.signature(Desk().say).parameters), ["row"])


class Deeds(Asking, unittest.TestCase):
    """[73]"""

    def test_pages_put(self):
        desk = Desk()
        self.assertEqual(desk.say("book"), "-")
        for row in ROWS:
            self.assertEqual(desk.say(row), "ok")
        self.assertEqual(desk.say("book"), WRITTEN)

    def test_each_mould_day_and_mark(self):
        for mould, day in itertools.product(range(4), range(31)):
            desk = Desk()
            for row in [f"made {mould} {day} -/-", f"made {mould} {day} 0/7", f"mended {mould} {day} {day % 8 or 7}"]:
                self.assertEqual(desk.say(row), "ok")
            self.assertEqual(desk.say("book"), f"made {mould} {day} -/-\nmade {mould} {day} 0/7\n"
                                               f"mended {mould} {day} {day % 8 or 7}\n")

    def test_sheets_with_all_marks(self):
        desk = told("made 0 0 01234567/-", "made 1 0 -/01234567", "made 2 30 0246/1357")
        self.assertEqual(desk.say("book"), "made 0 0 01234567/-\nmade 1 0 -/01234567\nmade 2 30 0246/1357\n")

    def test_what_was_written_is_told_again(self):
        for book in BOOKS:
            desk = Desk()
            for line in reversed(book_text(book).splitlines()):
                self.assertEqual(desk.say(line), "ok")
            self.assertEqual(desk.say("book"), book_text(book) or "-")
            if book:
                self.assertEqual(read_book(desk.say("book")), book)

    def test_pages_taken_out(self):
        desk = told(*ROWS)
        self.assertEqual(desk.say("out made 1 20 2/0"), "ok")
        self.assertEqual(desk.say("book"), "made 1 5 2/-\nmade 1 12 -/2\nmended 1 10 2\n")
        self.assertEqual(desk.say("out made 1 5 2/-"), "ok")
        self.assertEqual(desk.say("out mended 1 10 2"), "ok")
        self.assertEqual(desk.say("book"), "made 1 12 -/2\n")
        self.assertEqual(desk.say("out made 1 12 -/2"), "ok")
        self.assertEqual(desk.say("book"), "-")

    def test_undone(self):
        desk = told(*ROWS)
        desk.say("out made 1 20 2/0")
        self.assertEqual(desk.say("undo"), "ok")
        self.assertEqual(desk.say("book"), WRITTEN)
        for row in reversed(ROWS):
            self.assertEqual(desk.say("undo"), "ok")
            self.assertNotIn(row + "\n", desk.say("book"))
        self.assertEqual(desk.say("book"), "-")
        self.refused(NoDeed, desk.say, ["undo"])
        self.assertEqual(desk.say(ROWS[0]), "ok")
        self.assertEqual(desk.say("undo"), "ok")
        self.refused(NoDeed, desk.say, ["undo"])

    def test_questions_are_no_deeds(self):
        desk = told(ROWS[0])
        for row in ["book", "surely 1 5", "where 2/-"]:
            desk.say(row)
        self.assertEqual(desk.say("undo"), "ok")
        self.assertEqual(desk.say("book"), "-")
        for row in ["book", "surely 1 5", "where 2/-"]:
            desk.say(row)
            self.refused(NoDeed, desk.say, ["undo"])

    def test_two_desks(self):
        one, other = Desk(), Desk()
        one.say("made 0 0 1/-")
        self.assertEqual((one.say("book"), other.say("book")), ("made 0 0 1/-\n", "-"))
        self.refused(NoDeed, other.say, ["undo"])
        other.say("made 0 1 -/1")
        one.say("undo")
        self.assertEqual((one.say("book"), other.say("book")), ("-", "made 0 1 -/1\n"))
        self.assertEqual((one.say("where 1/-"), other.say("where 1/-")),
                         ("0,0,30 1,0,30 2,0,30 3,0,30", "0,2,30 1,0,30 2,0,30 3,0,30"))

    def test_a_desk_and_a_diary(self):
        desk, diary = Desk(), Diary()
        diary.tell(made(0, 0))
        self.assertEqual(desk.say("book"), "-")
        desk.say("made 1 1 -/-")
        self.assertEqual(diary.book_now(), (made(0, 0),))


class Questions(Asking, unittest.TestCase):
    """[73]"""

    def answered(self, desk, row, wanted):
        self.assertEqual((self.own_answer(desk.say, row), desk.say(row)), (wanted, wanted))

    def test_surely(self):
        desk = told(*ROWS)
        for row, wanted in [("surely 1 0", "-/0"), ("surely 1 5", "2/0"), ("surely 1 9", "2/0"),
                            ("surely 1 10", "-/02"), ("surely 1 12", "-/02"), ("surely 1 13", "-/0"),
                            ("surely 1 20", "2/0"), ("surely 1 21", "2/-"), ("surely 1 30", "2/-"),
                            ("surely 0 5", "-/-"), ("surely 3 30", "-/-")]:
            self.answered(desk, row, wanted)
        self.answered(Desk(), "surely 0 0", "-/-")
        self.answered(told("made 3 0 01234567/-"), "surely 3 30", "01234567/-")
        self.answered(told("made 3 30 -/01234567"), "surely 3 0", "-/01234567")

    def test_where(self):
        desk = told(*ROWS)
        for row, wanted in [("where -/-", "0,0,30 1,0,30 2,0,30 3,0,30"),
                            ("where 2/-", "0,0,30 1,0,9 1,13,30 2,0,30 3,0,30"),
                            ("where -/2", "0,0,30 1,0,4 1,10,19 2,0,30 3,0,30"),
                            ("where 0/2", "0,0,30 2,0,30 3,0,30"), ("where 0/-", "0,0,30 1,21,30 2,0,30 3,0,30")]:
            self.answered(desk, row, wanted)
        self.answered(Desk(), "where 01234567/-", "0,0,30 1,0,30 2,0,30 3,0,30")

    def test_where_one_place_is_left(self):
        desk = told(*[f"made {mould} 30 -/0" for mould in range(3)], "made 3 14 -/0", "mended 3 16 0", "made 3 30 -/0")
        self.answered(desk, "where 0/-", "3,15,15")

    def test_where_none_is_left(self):
        desk = told(*[f"made {mould} 30 -/0" for mould in range(4)])
        self.answered(desk, "where 0/-", "none")
        self.answered(desk, "where 0/1", "none")
        self.answered(desk, "where -/0", "0,0,30 1,0,30 2,0,30 3,0,30")

    def test_book(self):
        self.answered(Desk(), "book", "-")
        self.answered(told(*ROWS), "book", WRITTEN)
        self.answered(told(*book_text(FULL_BOOK).splitlines()), "book", book_text(FULL_BOOK))

    def test_by_each_book(self):
        for book in BOOKS:
            desk = told(*reversed(book_text(book).splitlines()))
            for mould, day in itertools.product(range(4), (0, 5, 10, 15, 30)):
                self.answered(desk, f"surely {mould} {day}", keepers.sheet_text(surely(book, mould, day)))


class Refusals(Asking, unittest.TestCase):
    """[5], [73]"""

    def setUp(self):
        self.desk = told(*ROWS)

    def tearDown(self):
        """What is refused changes nothing, and is no deed to undo."""
        self.assertEqual(self.desk.say("book"), WRITTEN)
        self.desk.say("undo")
        self.assertEqual(self.desk.say("book"), WRITTEN.replace(ROWS[3] + "\n", ""))

    def test_no_page(self):
        for page in NO_PAGES:
            self.refused(NoPage, self.desk.say, [page])
            self.refused(NoPage, self.desk.say, ["out " + page])

    def test_no_page_goes_ahead_of_a_clash(self):
        full = told(*book_text(FULL_BOOK).splitlines())
        for page in NO_PAGES:
            self.refused(NoPage, full.say, [page])
            self.refused(NoPage, full.say, ["out " + page])
        self.assertEqual(full.say("book"), book_text(FULL_BOOK))

    def test_clash(self):
        for row in ROWS + ["made 1 6 -/2", "made 1 10 2/-", "mended 1 5 2", "mended 1 20 2", "made 1 30 -/2",
                           "out mended 1 10 2", "out made 0 5 2/-", "out made 1 5 -/2", "out mended 1 11 2",
                           "out made 1 5 2/0"]:
            self.refused(Clash, self.desk.say, [row])

    def test_clash_of_faulty_pages(self):
        for laid in FAULTY:
            *rows, last = [row for row in keepers.book_text(laid).splitlines()]
            desk = told(*rows)
            self.refused(Clash, desk.say, [last])
            self.assertEqual(desk.say("book"), "".join(row + "\n" for row in rows))

    def test_a_twenty_fifth_page(self):
        full = told(*book_text(FULL_BOOK).splitlines())
        for row in ["made 0 24 -/-", "mended 3 30 7"]:
            self.refused(Clash, full.say, [row])
        self.assertEqual(full.say("book"), book_text(FULL_BOOK))
        self.assertEqual(full.say("out made 0 0 -/1"), "ok")
        self.assertEqual(full.say("made 0 24 -/-"), "ok")

    def test_nothing_to_undo_or_take_out(self):
        desk = Desk()
        self.refused(NoDeed, desk.say, ["undo"])
        self.refused(Clash, desk.say, ["out made 0 0 -/-"])
        self.refused(NoDeed, desk.say, ["undo"])

    def test_no_mould_then_no_day(self):
        for row, due in [("surely 4 0", NoMould), ("surely 10 30", NoMould), ("surely 0 31", NoDay),
                         ("surely 3 100", NoDay), ("surely 4 31", NoMould), (f"surely {THIRTY} 0", NoMould),
                         (f"surely 0 {THIRTY}", NoDay), (f"surely {THIRTY} {THIRTY}", NoMould)]:
            self.refused(due, self.desk.say, [row])

    def test_no_sheet(self):
        for sheet in ["8/-", "-/9", "10/-", "-/76", "00/-", "-/77", "0/0", "012/2", "01234567/7", f"{THIRTY}/-",
                      f"-/{THIRTY}", "0" * 30 + "/-", "012345678/-", f"{THIRTY}/{THIRTY}"]:
            self.refused(NoSheet, self.desk.say, ["where " + sheet])

    def test_no_rows(self):
        for row in NO_ROWS:
            self.refused(NoRow, self.desk.say, [row])

    def test_no_row_goes_ahead_of_all_else(self):
        for row in ["made 4 31 8/8 ", "made 4 00 8/8", "mended 9 99 09", "out made 4 31 8", "out made 1 12 2/- ",
                    "surely 4 031", "surely 4", "surely 4 31 0", "where 8/8/8", "where 8/", "undo undo"]:
            self.refused(NoRow, self.desk.say, [row])
            self.refused(NoRow, Desk().say, [row])

    def test_signs_that_are_no_figures(self):
        for figure in [chr(sign) for sign in range(32, 127) if chr(sign) not in "0123456789"]:
            for row in [f"made {figure} 0 -/-", f"made 0 1{figure} -/-", f"made 0 0 1{figure}/-",
                        f"mended 0 0 {figure}", f"surely {figure} 0", f"surely 0 1{figure}",
                        f"where 1{figure}/-", f"where -/1{figure}"]:
                self.refused(NoRow, self.desk.say, [row])

    def test_figures_of_other_scripts_are_none(self):
        for figure in "\u00b2\u0661\u06f3\uff11":
            for row in [f"made {figure} 0 -/-", f"made 0 {figure} -/-", f"made 0 0 {figure}/-", f"mended 0 0 {figure}",
                        f"surely {figure} 0", f"where {figure}/-"]:
                self.refused(NoRow, self.desk.say, [row])

    def test_what_is_no_text(self):
        for thing in ODD_THINGS + [0, (), ("book",), ["book"], {"book": "book"}, ["made", 0, 0, "-/-"], made(0, 0),
                                   ("undo",), ["undo"], FULL_BOOK]:
            if thing != "made 0 0 -/-":
                self.refused(NoRow, self.desk.say, [thing])

    def test_what_the_desk_told_is_no_row(self):
        full = told(*book_text(FULL_BOOK).splitlines())
        for text in [full.say("book"), full.say("where -/-"), full.say("surely 0 0"), WRITTEN, ROWS[0] + "\n"]:
            self.refused(NoRow, self.desk.say, [text])


class Strewn(Asking, unittest.TestCase):
    def answered(self, desk, plain, row):
        """What the plain reading tells of a row, an answer or a refusal, the desk does."""
        wanted = plain.say(row)
        if isinstance(wanted, str):
            self.assertEqual(desk.say(row), wanted, row)
            return row.split()[0]
        self.refused(wanted, desk.say, [row])
        return wanted

    def some_row(self, chance, plain):
        mould, day = chance.randrange(2), chance.choice([0, 1, 2, 29, 30])
        sheet = keepers.sheet_text(some_sheet(chance, 2))
        page = chance.choice([f"made {mould} {day} {sheet}", f"mended {mould} {day} {chance.randrange(2)}"])
        if plain.diary.book() and chance.random() < 0.3:
            page = keepers.page_text(chance.choice(plain.diary.book()))
        return chance.choice([page, page, page, "out " + page, "undo", "book", f"surely {mould} {day}",
                              f"where {sheet}"])

    def test_strewn_rows(self):
        chance = random.Random(73)
        seen = {}
        for turn in range(25):
            desk, plain = Desk(), keepers.Desk()
            for step in range(50):
                row = self.some_row(chance, plain)
                if chance.random() < 0.3:
                    at = chance.randrange(len(row) + 1)
                    row = row[:at] + chance.choice(SIGNS) + row[at + chance.randrange(2):]
                what = self.answered(desk, plain, row)
                seen[what] = seen.get(what, 0) + 1
                self.assertEqual(desk.say("book"), plain.say("book"))
        for what in ["made", "mended", "out", "undo", "book", "surely", "where", NoRow, NoPage, Clash, NoDeed]:
            self.assertGreater(seen.get(what, 0), 4, what)

    def test_a_sign_more_fewer_or_another_at_any_place(self):
        seen = {}
        for row in ["made 1 30 2/01", "mended 3 10 7", "out made 1 5 2/-", "out mended 1 10 2", "undo", "book",
                    "surely 1 12", "where 2/01"]:
            for at, sign, cut in itertools.product(range(len(row) + 1), SIGNS, (0, 1)):
                desk, plain = Desk(), keepers.Desk()
                for ahead in ROWS[:2]:
                    self.answered(desk, plain, ahead)
                what = self.answered(desk, plain, row[:at] + sign + row[at + cut:])
                seen[what] = seen.get(what, 0) + 1
                self.assertEqual(desk.say("book"), plain.say("book"))
        for what in ["made", "mended", "out", "surely", "where", NoRow, NoPage, Clash, NoMould, NoDay, NoSheet]:
            self.assertGreater(seen.get(what, 0), 2, what)


if __name__ == "__main__":
    unittest.main()
