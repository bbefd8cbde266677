"""What holds over the whole program: kinds, refusals, and answers that are the asker's own."""

import copy
import importlib
import inspect
import itertools
import random
import unittest

from tests import keepers, oracle
from tests.asking import Asking, lists_in
from tests.samples import (BOOKS, FAULTY, FULL_BOOK, NOTHING_SEEN, ODD_THINGS, WRONG_BOOKS, WRONG_COUNTS, WRONG_HEAPS,
                           WRONG_LAID, WRONG_MARKS, WRONG_PAGES, WRONG_RUNS, WRONG_SHEETS, WRONG_SHEETS_TOGETHER, made,
                           mended)
from twinmoulds import errors
from twinmoulds.counts import counted, sheets_in, summed
from twinmoulds.datings import days_of, is_dating, narrowest
from twinmoulds.desk import Desk
from twinmoulds.diary import Diary
from twinmoulds.heaps import are_rows, are_strangers, fewest, more_by, needed, rows_of, strangers_of
from twinmoulds.lives import is_life, least_life, may_be, most_life, places_of, surely
from twinmoulds.loft import Loft
from twinmoulds.pages import are_marks, faults, is_book, is_page, is_sheet
from twinmoulds.runs import best_laying, breaks_of, is_laying, is_paper, paper_of
from twinmoulds.texts import book_text, read_book

# By module: functions with their arguments, and classes with their deeds.
INTERFACE = {
    "pages": ["are_marks(thing)", "is_sheet(thing)", "is_page(thing)", "faults(laid)", "is_book(thing)"],
    "lives": ["surely(book, mould, day)", "is_life(book, mould, thing)", "least_life(book, mould)",
              "most_life(book, mould)", "may_be(book, mould, day, sheet)", "places_of(book, sheet)"],
    "datings": ["is_dating(book, mould, sheets, thing)", "days_of(book, mould, sheets)",
                "narrowest(book, mould, sheets)"],
    "runs": ["is_laying(run, thing)", "breaks_of(run, laying)", "best_laying(run)", "is_paper(run, thing)",
             "paper_of(run)"],
    "heaps": ["are_rows(heap, thing)", "are_strangers(heap, thing)", "fewest(heap)", "rows_of(heap)",
              "strangers_of(heap)", "more_by(heap, marks)", "needed(heap)"],
    "counts": ["counted(sheets)", "sheets_in(count)", "summed(counts)"],
    "loft": ["Loft()", "Loft.put(self, sort, count)", "Loft.take(self, sort, count)", "Loft.stock(self, sort)",
             "Loft.broken(self)"],
    "diary": ["Diary()", "Diary.tell(self, page)", "Diary.strike(self, page)", "Diary.undo(self)",
              "Diary.book_now(self)"],
    "texts": ["book_text(book)", "read_book(text)"],
    "desk": ["Desk()", "Desk.say(self, row)"],
}

BOOK = (made(0, 10, (0,), (1,)), mended(0, 20, 0))
RUN = ((0,), (1,), (1,), (0,))
HEAP = ((0,), (0, 1), (1,))
SHEETS = (((0,), ()), ((), (0,)))

# For each kind: things that are of it, things that are none, whether a thing is one, and the refusal that is due.
KINDS = {
    "laid": ([BOOK] + FAULTY, WRONG_LAID, keepers.are_laid, errors.NoBook),
    "book": ([BOOK] + BOOKS, WRONG_BOOKS, keepers.is_book, errors.NoBook),
    "mould": ([0, 1, 3], ODD_THINGS + [4], lambda thing: keepers.is_whole(thing, 3), errors.NoMould),
    "day": ([0, 10, 30], ODD_THINGS, lambda thing: keepers.is_whole(thing, 30), errors.NoDay),
    "sort": ([0, 2], ODD_THINGS + [3], lambda thing: keepers.is_whole(thing, 2), errors.NoSort),
    "number": ([0, 24, 479999], [-1, 480000, True, None, "0"], lambda thing: keepers.is_whole(thing, 479999),
               errors.NoNumber),
    "sheet": ([NOTHING_SEEN, ((0,), (1,))], WRONG_SHEETS, keepers.is_sheet, errors.NoSheet),
    "sheets": ([SHEETS, (NOTHING_SEEN,)], WRONG_SHEETS_TOGETHER, keepers.are_sheets, errors.NoSheets),
    "marks": ([(), (0, 7)], WRONG_MARKS, keepers.are_marks, errors.NoMarks),
    "run": ([RUN, ((),) * 10], WRONG_RUNS, lambda thing: keepers.are_many_marks(thing, 10), errors.NoRun),
    "heap": ([HEAP, ((),) * 9], WRONG_HEAPS, lambda thing: keepers.are_many_marks(thing, 9), errors.NoHeap),
    "laying of RUN": ([(0, 1, 1, 0)], ODD_THINGS + [(0, 1, 0, 1), (1, 0, 0, 1), (0, 1, True, 0)],
                      lambda thing: type(thing) is tuple and list(map(repr, thing)) == list("0110"), errors.NoLaying),
    "count": ([(0, 0, 0), (999, 19, 23)], WRONG_COUNTS, keepers.is_count, errors.NoCount),
    "counts": ([[], [(0, 0, 1)] * 20], [[(0, 0, 0)] * 21, ((0, 0, 0),)], keepers.are_counts, errors.NoCount),
    "page": ([made(1, 1), mended(1, 1, 1)], WRONG_PAGES, keepers.is_page, errors.NoPage),
    "text": (["", "made 0 0 -/-\n"], ["\n", " ", "made 0 0 -/-", None],
             lambda thing: type(thing) is str and keepers.read_book(thing) is not None, errors.NoText),
    "row": (["book", "made 0 0 -/-"], ["", "books", "undo ", None],
            lambda thing: type(thing) is str and keepers.ROW.fullmatch(thing) is not None, errors.NoRow),
}

# A "thing" is of whatever kind, and never refused.
CALLS = [
    (faults, ["laid"]), (surely, ["book", "mould", "day"]), (is_life, ["book", "mould", "thing"]),
    (least_life, ["book", "mould"]), (most_life, ["book", "mould"]), (may_be, ["book", "mould", "day", "sheet"]),
    (places_of, ["book", "sheet"]), (is_dating, ["book", "mould", "sheets", "thing"]),
    (days_of, ["book", "mould", "sheets"]), (narrowest, ["book", "mould", "sheets"]), (is_laying, ["run", "thing"]),
    (lambda laying: breaks_of(RUN, laying), ["laying of RUN"]), (breaks_of, ["run", "thing"]), (best_laying, ["run"]),
    (is_paper, ["run", "thing"]), (paper_of, ["run"]), (are_rows, ["heap", "thing"]),
    (are_strangers, ["heap", "thing"]), (fewest, ["heap"]), (rows_of, ["heap"]), (strangers_of, ["heap"]),
    (more_by, ["heap", "marks"]), (needed, ["heap"]),
    (counted, ["number"]), (sheets_in, ["count"]), (summed, ["counts"]),
    (lambda sort, count: Loft().put(sort, count), ["sort", "count"]),
    (lambda sort, count: Loft().take(sort, count), ["sort", "count"]), (lambda sort: Loft().stock(sort), ["sort"]),
    (lambda page: Diary().tell(page), ["page"]), (lambda page: Diary().strike(page), ["page"]),
    (book_text, ["book"]), (read_book, ["text"]), (lambda row: Desk().say(row), ["row"]),
]



def are_whole(thing, most):
    return type(thing) is tuple and all(keepers.is_whole(part, most) for part in thing)


def is_paper_of_run(thing):
    return (type(thing) is tuple and len(thing) == 4 and all(type(row) is tuple for row in thing)
            and [len(row) for row in thing] == [1, 2, 3, 4]
            and all(part is None or keepers.is_whole(part, 10 ** 30) for row in thing for part in row)
            and oracle.is_paper(RUN, thing))


# A question on a thing, with all but it handed in, an answer that is so, and whether a thing is.
QUESTIONS = [
    (lambda thing: is_life(BOOK, 0, thing), most_life(BOOK, 0),
     lambda thing: (type(thing) is tuple and len(thing) == 31 and all(keepers.are_marks(marks) for marks in thing)
                    and oracle.is_life(BOOK, 0, thing))),
    (lambda thing: is_dating(BOOK, 0, SHEETS, thing), (19, 20),
     lambda thing: are_whole(thing, 30) and len(thing) == 2 and oracle.has_life(BOOK, 0, SHEETS, thing)),
    (lambda thing: is_laying(RUN, thing), (0, 1, 1, 0),
     lambda thing: are_whole(thing, 1) and len(thing) == 4 and oracle.is_laying(RUN, thing)),
    (lambda thing: is_paper(RUN, thing), paper_of(RUN), is_paper_of_run),
    (lambda thing: are_rows(HEAP, thing), ((0, 1), (2,)),
     lambda thing: (type(thing) is tuple and all(are_whole(row, 2) for row in thing)
                    and oracle.are_rows(HEAP, thing))),
    (lambda thing: are_strangers(HEAP, thing), (0, 2),
     lambda thing: are_whole(thing, 2) and list(thing) == sorted(set(thing)) and oracle.are_strangers(HEAP, thing)),
]

# What is told of a thing of whatever kind, and whether it is so.
TRUTHS = [(are_marks, keepers.are_marks), (is_sheet, keepers.is_sheet), (is_page, keepers.is_page),
          (is_book, keepers.is_book)]

TEXTS = ["", "a", "0", "made", "mended", "out", "undo", "book", "\n", "\t", "~" * 200, "made 0 0 -/-", "-/-",
         "made 0 0 -/-\n"]


def some_thing(chance, deep):
    """A thing of whatever kind."""
    kind = chance.randrange(9 if deep else 6)
    if kind < 3:
        return chance.choice([None, True, False, 0, 1, 2, 3, 7, 8, 30, 31, -1, 10 ** 30 - 1, -(10 ** 30 - 1)])
    if kind < 6:
        return chance.choice(TEXTS)
    inner = [some_thing(chance, deep - 1) for part in range(chance.randrange(5))]
    if kind == 6:
        return inner
    if kind == 7:
        return tuple(inner)
    return {chance.choice([None, True, 0, "a", (), (1, "b")]): thing for thing in inner}


def with_other_part(chance, thing):
    """A right thing with one part, at whatever depth, exchanged, left out, doubled, or in another kind of row."""
    if not isinstance(thing, (tuple, list)) or not thing or chance.random() < 0.2:
        return chance.choice([some_thing(chance, 1), list(thing) if isinstance(thing, tuple) else (thing,)])
    at = chance.randrange(len(thing))
    parts = list(thing)
    way = chance.randrange(6)
    if way == 0:
        del parts[at]
    elif way == 1:
        parts.insert(at, parts[at])
    elif way == 2:
        parts.reverse()
    else:
        parts[at] = with_other_part(chance, parts[at])
    return type(thing)(parts)


def strewn_things(right, many):
    """Things of whatever kind, and as many that are nearly right ones."""
    chance = random.Random(repr(right))
    things = [some_thing(chance, 6) for turn in range(many)]
    return things + [with_other_part(chance, chance.choice(right)) for turn in range(many)]


class Interface(unittest.TestCase):
    def test_every_name_with_its_arguments(self):
        for module, rows in INTERFACE.items():
            held = importlib.import_module("twinmoulds." + module)
            for row in rows:
                name, arguments = row.rstrip(")").split("(")
                thing = held
                for part in name.split("."):
                    thing = getattr(thing, part)
                self.assertEqual(", ".join(inspect.signature(thing).parameters), arguments, row)


class Kinds(Asking, unittest.TestCase):
    """[2], [3]"""

    def test_strewn_things(self):
        seen = {True: 0, False: 0}
        names = {are_marks: "marks", is_sheet: "sheet", is_page: "page", is_book: "book"}
        for asked, holds in TRUTHS:
            for thing in strewn_things(KINDS[names[asked]][0], 1500):
                self.truth(holds(thing), asked, thing)
                seen[holds(thing)] += 1
        self.assertGreater(min(seen.values()), 100)

    def test_questions_on_strewn_things(self):
        seen = {True: 0, False: 0}
        for asked, right, holds in QUESTIONS:
            self.truth(True, asked, right)
            for thing in strewn_things([right], 1000) + ODD_THINGS:
                self.truth(holds(thing), asked, thing)
                seen[holds(thing)] += 1
        self.assertGreater(min(seen.values()), 100)

    def test_right_and_wrong_things(self):
        for asked, holds in TRUTHS:
            for right, wrong, is_one, due in KINDS.values():
                for thing in right + wrong:
                    self.truth(holds(thing), asked, thing)

    def test_wrong_things_are_none_and_right_ones_are(self):
        for name, (right, wrong, is_one, due) in KINDS.items():
            self.assertTrue(all(is_one(thing) for thing in right), name)
            self.assertFalse(any(is_one(thing) for thing in wrong), name)


class Refusals(Asking, unittest.TestCase):
    """[5]"""

    def some_handed(self, chance, names, wrong_ones):
        return [None if name == "thing" else chance.choice(KINDS[name][name in wrong_ones]) for name in names]

    def held(self, chance, deed, names, name, thing):
        """A thing at one place is refused by the class told, all else being right; where it is one, it isn't."""
        handed = self.some_handed(chance, names, [])
        handed[names.index(name)] = thing
        right, wrong, is_one, due = KINDS[name]
        if not is_one(thing):
            self.refused(due, deed, handed)
            return False
        try:
            deed(*handed)
        except errors.MouldError as refusal:
            self.assertNotIsInstance(refusal, due)
        return True

    def refusable(self):
        return [(deed, names, name) for deed, names in CALLS for name in names if name != "thing"]

    def test_each_wrong_thing_by_itself(self):
        chance = random.Random(50)
        for deed, names, name in self.refusable():
            for thing in KINDS[name][1]:
                self.assertFalse(self.held(chance, deed, names, name, thing))

    def test_right_things(self):
        chance = random.Random(51)
        for deed, names, name in self.refusable():
            for thing in KINDS[name][0]:
                self.assertTrue(self.held(chance, deed, names, name, thing))

    def test_strewn_things(self):
        chance = random.Random(52)
        seen = {True: 0, False: 0}
        things = {name: strewn_things(KINDS[name][0], 150) for name in KINDS}
        for deed, names, name in self.refusable():
            for thing in things[name]:
                seen[self.held(chance, deed, names, name, thing)] += 1
        self.assertGreater(min(seen.values()), 100)

    def test_the_leftmost_of_several(self):
        chance = random.Random(53)
        for deed, names in CALLS:
            able = [name for name in names if name != "thing"]
            for many in range(2, len(able) + 1):
                for wrong_ones in itertools.combinations(able, many):
                    for turn in range(40):
                        self.refused(KINDS[wrong_ones[0]][3], deed, self.some_handed(chance, names, wrong_ones))

    def test_what_this_program_told_is_handed_in_again(self):
        chance = random.Random(54)
        run = ((0,), (1,)) * 5
        desk = Desk()
        for line in book_text(FULL_BOOK).splitlines():
            desk.say(line)
        told = [paper_of(run), paper_of(((),) * 10), least_life(FULL_BOOK, 0), most_life(FULL_BOOK, 0),
                places_of(FULL_BOOK, NOTHING_SEEN), days_of((), 0, (NOTHING_SEEN,) * 3), book_text(FULL_BOOK),
                desk.say("book"), desk.say("where -/-"), faults(FAULTY[4]), FULL_BOOK, rows_of(HEAP), counted(479999),
                breaks_of(((),) * 10, (0,) * 10)]
        for deed, names, name in self.refusable():
            for thing in told:
                self.held(chance, deed, names, name, thing)
        for deed, names in CALLS:
            for thing in told:
                if "thing" in names and deed != breaks_of:
                    handed = self.some_handed(chance, names, [])
                    handed[names.index("thing")] = thing
                    self.assertIn(deed(*handed), (True, False))


class Answers(Asking, unittest.TestCase):
    """[4]"""

    def asked(self):
        """Questions of all modules, those whose answers hold lists among them."""
        for book in BOOKS:
            for handed in [(surely, book, 1, 12), (least_life, book, 1), (most_life, book, 0),
                           (places_of, book, SHEETS[0]), (days_of, book, 1, SHEETS), (narrowest, book, 0, SHEETS),
                           (book_text, book), (faults, book),
                           (read_book, book_text(book)), (may_be, book, 0, 3, SHEETS[1]), (is_book, book)]:
                yield handed
        for laid in FAULTY:
            yield (faults, laid)
        for run in [RUN, ((),) * 10, ((0,), (1,), (2,))]:
            yield (best_laying, run)
            yield (paper_of, run)
            yield (is_paper, run, paper_of(run))
        yield (breaks_of, RUN, (0, 1, 1, 0))
        for deed in (fewest, rows_of, strangers_of, needed):
            yield (deed, HEAP)
        yield (more_by, HEAP, (2,))
        yield (summed, [(0, 0, 23), (0, 0, 1)])
        yield (counted, 505)
        yield (sheets_in, (1, 1, 1))

    def test_asked_again_the_answer_is_the_same_and_its_lists_are_new(self):
        lists = 0
        for deed, *handed in self.asked():
            lists += len(lists_in(self.own_answer(deed, *handed)))
        self.assertGreater(lists, 30)

    def test_lists_of_different_questions_are_not_one(self):
        told = [deed(*handed) for deed, *handed in self.asked()]
        lists = [each for answer in told for each in lists_in(answer)]
        self.assertEqual(len({id(each) for each in lists}), len(lists))

    def test_what_is_done_later_to_what_was_handed_in_turns_nothing(self):
        counts = [(0, 0, 1), (0, 0, 2)]
        self.assertEqual(summed(counts), (0, 0, 3))
        counts.clear()
        self.assertEqual(summed([(0, 0, 1), (0, 0, 2)]), (0, 0, 3))
        diary, loft = Diary(), Loft()
        diary.tell(made(0, 0))
        page = ["made", 0, 1, NOTHING_SEEN]
        self.refused(errors.NoPage, diary.tell, [page])
        self.refused(errors.NoCount, loft.put, [0, [0, 0, 1]])
        page.clear()
        self.assertEqual((diary.book_now(), loft.stock(0)), ((made(0, 0),), (0, 0, 0)))

    def test_what_is_done_to_an_answer_turns_nothing(self):
        diary, desk = Diary(), Desk()
        for page in reversed(BOOKS[4]):
            diary.tell(page)
        before = copy.deepcopy(diary.book_now())
        places = places_of(diary.book_now(), SHEETS[0])
        wanted = oracle.places_of(before, SHEETS[0])
        places.clear()
        self.assertEqual(diary.book_now(), before)
        self.assertEqual(places_of(diary.book_now(), SHEETS[0]), wanted)
        self.assertEqual(desk.say("book"), "-")

    def test_keepers_are_changed_by_their_own_deeds_alone(self):
        one, other = [(Loft(), Diary(), Desk()) for turn in range(2)]
        one[0].put(0, (0, 0, 1))
        one[1].tell(made(0, 0))
        one[2].say("made 1 1 -/-")
        self.assertEqual((other[0].stock(0), other[0].broken(), other[1].book_now(), other[2].say("book")),
                         ((0, 0, 0), 0, (), "-"))
        self.assertEqual((one[0].stock(0), one[0].broken(), one[1].book_now(), one[2].say("book")),
                         ((0, 0, 1), 1, (made(0, 0),), "made 1 1 -/-\n"))
        for deed, *handed in self.asked():
            deed(*handed)
        self.assertEqual((one[0].stock(0), one[1].book_now(), one[2].say("book")),
                         ((0, 0, 1), (made(0, 0),), "made 1 1 -/-\n"))


if __name__ == "__main__":
    unittest.main()
