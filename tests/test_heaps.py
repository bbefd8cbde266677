import itertools
import random
import unittest

from tests import oracle
from tests.asking import Asking
from tests.samples import ODD_THINGS, WRONG_HEAPS, WRONG_MARKS, strewn_lines
from twinmoulds import heaps
from twinmoulds.errors import NoHeap, NoMarks
from twinmoulds.heaps import are_rows, are_strangers, fewest, more_by, needed, rows_of, strangers_of

EVERY = tuple(range(8))
ALIKE = ((3,),) * 9
GROWING = tuple(tuple(range(many)) for many in range(9))
ALL_STRANGE = tuple(itertools.combinations(range(8), 2))[:9]
# Two can stand behind the first, and only by the right choice are two rows enough.
FORKED = ((0,), (0, 1), (1,), (0, 1, 2), (0, 2))
MIXED = ((0, 1), (), (2,), (0,), (0, 1), (1, 2), (0, 1, 2), (7,), (2,))
HEAPS = [((),), ((0, 7),), ((0,), (0,)), ((0,), (1,)), ((0, 1), (0,)), ALIKE, GROWING, tuple(reversed(GROWING)),
         ALL_STRANGE, FORKED, MIXED, ((0,), (1,), (0, 1), (2,), (0, 2), (1, 2), (0, 1, 2), (), (3,))]
STREWN_HEAPS = strewn_lines(9, 4)

CALLS = [(are_rows, ["heap", "thing"]), (are_strangers, ["heap", "thing"]), (fewest, ["heap"]), (rows_of, ["heap"]),
         (strangers_of, ["heap"]), (more_by, ["heap", "marks"]), (needed, ["heap"])]
RIGHT = {"heap": FORKED, "marks": (0, 1), "thing": ((0,),)}
WRONG = {"heap": WRONG_HEAPS, "marks": WRONG_MARKS}
DUE = {"heap": NoHeap, "marks": NoMarks}


def with_other(thing, at, *others):
    return thing[:at] + others + thing[at + 1:]


class Interface(Asking, unittest.TestCase):
    def test_names_and_arguments(self):
        self.named(heaps, CALLS)


class Rows(Asking, unittest.TestCase):
    """[51]"""

    def test_told_rows_are_rows(self):
        for heap in HEAPS + STREWN_HEAPS:
            self.truth(True, are_rows, heap, rows_of(heap))
            self.assertTrue(oracle.are_rows(heap, rows_of(heap)), heap)

    def test_one_row_for_each_place(self):
        for heap in HEAPS + STREWN_HEAPS:
            self.truth(True, are_rows, heap, tuple((place,) for place in range(len(heap))))

    def test_rows_in_any_order(self):
        for heap in HEAPS:
            for rows in itertools.islice(itertools.permutations(rows_of(heap)), 24):
                self.truth(True, are_rows, heap, rows)

    def test_alike_ones_stand_in_any_order(self):
        self.truth(True, are_rows, ALIKE, (EVERY + (8,),))
        self.truth(True, are_rows, ALIKE, ((8, 7, 6, 5, 4, 3, 2, 1, 0),))
        self.truth(True, are_rows, ALIKE, ((8, 0, 7), (3, 2), (1, 4, 5, 6)))

    def test_each_has_all_marks_of_the_one_ahead(self):
        heap = ((0, 1), (0,), ())
        for order in itertools.permutations(range(3)):
            self.truth(order == (2, 1, 0), are_rows, heap, (order,))
        self.truth(True, are_rows, heap, ((2, 0), (1,)))
        self.truth(False, are_rows, heap, ((0, 2), (1,)))
        self.truth(False, are_rows, ((0,), (1,)), ((0, 1),))

    def test_a_place_left_out_twice_beyond_or_no_number(self):
        for heap in HEAPS:
            rows = rows_of(heap)
            for at, row in enumerate(rows):
                self.truth(False, are_rows, heap, with_other(rows, at))
                self.truth(False, are_rows, heap, with_other(rows, at, row, row))
                self.truth(False, are_rows, heap, with_other(rows, at, row, ()))
                self.truth(False, are_rows, heap, with_other(rows, at, list(row)))
                self.truth(False, are_rows, heap, with_other(rows, at, row, (len(heap),)))
                for place in range(len(row)):
                    self.truth(False, are_rows, heap, with_other(rows, at, with_other(row, place)))
                    self.truth(False, are_rows, heap, with_other(rows, at, with_other(row, place, row[place],
                                                                                      row[place])))
                    for wrong in [len(heap), -1, row[place] - len(heap), True, False, None, "0", (), (0,), [0], {}]:
                        self.truth(False, are_rows, heap, with_other(rows, at, with_other(row, place, wrong)))

    def test_truths_are_no_places(self):
        self.truth(True, are_rows, ((), ()), ((0, 1),))
        self.truth(False, are_rows, ((), ()), ((False, 1),))
        self.truth(False, are_rows, ((), ()), ((0, True),))
        self.truth(False, are_rows, ((),), ((False,),))

    def test_exchanged_places(self):
        self.truth(True, are_rows, FORKED, ((0, 1, 3), (2,), (4,)))
        self.truth(False, are_rows, FORKED, ((1, 0, 3), (2,), (4,)))
        self.truth(False, are_rows, FORKED, ((0, 4, 3), (1, 2)))
        self.truth(True, are_rows, FORKED, ((0, 4, 3), (2, 1)))

    def test_two_rows_made_one(self):
        self.truth(True, are_rows, FORKED, ((0, 4), (2, 1, 3)))
        self.truth(False, are_rows, FORKED, ((0, 4, 2, 1, 3),))
        self.truth(True, are_rows, GROWING, ((0, 1, 2), (3, 4, 5, 6, 7, 8)))
        self.truth(True, are_rows, GROWING, ((0, 1, 2, 3, 4, 5, 6, 7, 8),))

    def test_things_of_other_kinds(self):
        for heap in HEAPS:
            rows = rows_of(heap)
            for thing in ODD_THINGS + [(), 0, (0,), tuple(range(len(heap))), ((),), list(rows),
                                       [list(row) for row in rows], tuple(list(row) for row in rows), (rows,),
                                       rows + ((),), ((),) + rows, dict(enumerate(rows)), strangers_of(heap), str(rows)]:
                self.truth(False, are_rows, heap, thing)

    def test_strewn_rows(self):
        chance = random.Random(21)
        answers = {True: 0, False: 0}
        for heap in HEAPS + STREWN_HEAPS:
            for turn in range(12):
                places = sorted(range(len(heap)), key=lambda place: (len(heap[place]), chance.random()))
                groups = [[] for row in range(chance.choice([fewest(heap), len(heap)]))]
                for place in places:
                    chance.choice(groups).append(place)
                rows = tuple(tuple(group) for group in groups if group)
                wanted = oracle.are_rows(heap, rows)
                self.truth(wanted, are_rows, heap, rows)
                answers[wanted] += 1
        self.assertGreater(min(answers.values()), 100)


class Strangers(Asking, unittest.TestCase):
    """[51]"""

    def test_told_strangers_are_strangers(self):
        for heap in HEAPS + STREWN_HEAPS:
            self.truth(True, are_strangers, heap, strangers_of(heap))
            self.assertTrue(oracle.are_strangers(heap, strangers_of(heap)))

    def test_none_and_one(self):
        for heap in HEAPS:
            self.truth(True, are_strangers, heap, ())
            for place in range(len(heap)):
                self.truth(True, are_strangers, heap, (place,))
            for wrong in (len(heap), -1, -len(heap), True, False, None, "0", (0,), [0], 10 ** 29):
                self.truth(False, are_strangers, heap, (wrong,))

    def test_every_choice_of_places(self):
        for heap in HEAPS + STREWN_HEAPS[::8]:
            for many in range(len(heap) + 1):
                for places in itertools.combinations(range(len(heap)), many):
                    self.truth(oracle.are_strangers(heap, places), are_strangers, heap, places)

    def test_alike_ones_are_no_strangers(self):
        self.truth(False, are_strangers, ALIKE, (0, 1))
        self.truth(False, are_strangers, ALIKE, (0, 8))

    def test_whichever_has_all_marks_of_the_other(self):
        self.truth(False, are_strangers, ((0,), (0, 1)), (0, 1))
        self.truth(False, are_strangers, ((0, 1), (0,)), (0, 1))
        self.truth(True, are_strangers, ((0, 2), (0, 1)), (0, 1))
        self.truth(False, are_strangers, ((), (0,)), (0, 1))

    def test_a_place_twice_exchanged_beyond(self):
        told = tuple(range(9))
        self.truth(True, are_strangers, ALL_STRANGE, told)
        for at in range(9):
            self.truth(True, are_strangers, ALL_STRANGE, with_other(told, at))
            self.truth(False, are_strangers, ALL_STRANGE, with_other(told, at, at, at))
            for wrong in (-1, 9, None, True, False, "0", (at,), [at], {}, (), 10 ** 29):
                self.truth(False, are_strangers, ALL_STRANGE, with_other(told, at, wrong))
        for one, other in itertools.combinations(range(9), 2):
            self.truth(False, are_strangers, ALL_STRANGE, with_other(with_other(told, one, other), other, one))
            self.truth(False, are_strangers, ALL_STRANGE, (other, one))

    def test_things_of_other_kinds(self):
        for heap in HEAPS:
            told = strangers_of(heap)
            for thing in ODD_THINGS + [0, list(told), (told,), str(told), dict(enumerate(told)), rows_of(heap), ((),),
                                       told + (None,), told + ((),)]:
                # Place 8 is there in a heap of nine.
                self.truth(thing == (8,) and len(heap) == 9, are_strangers, heap, thing)


class Fewest(Asking, unittest.TestCase):
    """[52], against a search through all ways"""

    def test_told(self):
        for heap, wanted in [(((),), 1), (((0,), (0,)), 1), (((0,), (1,)), 2), (ALIKE, 1), (GROWING, 1),
                             (tuple(reversed(GROWING)), 1), (ALL_STRANGE, 9), (FORKED, 2), (MIXED, 3)]:
            self.assertEqual(fewest(heap), wanted, heap)

    def held(self, heap):
        many = self.own_answer(fewest, heap)
        self.assertEqual(many, oracle.fewest_rows(heap), heap)
        self.assertEqual(many, oracle.most_strangers(heap), heap)
        rows, strangers = self.own_answer(rows_of, heap), self.own_answer(strangers_of, heap)
        self.assertEqual((len(rows), len(strangers)), (many, many), heap)
        self.assertIs(are_rows(heap, rows), True)
        self.assertIs(are_strangers(heap, strangers), True)
        self.assertTrue(oracle.are_rows(heap, rows) and oracle.are_strangers(heap, strangers))
        return many

    def test_fixed_and_strewn_heaps(self):
        numbers = [self.held(heap) for heap in HEAPS + STREWN_HEAPS]
        self.assertGreaterEqual(len(set(numbers)), 5)

    def test_heaps_in_each_order(self):
        for order in itertools.permutations(FORKED):
            self.assertEqual(self.held(order), 2)

    def test_all_small_heaps(self):
        subsets = [(), (0,), (1,), (2,), (0, 1), (0, 2), (1, 2), (0, 1, 2)]
        for many in (1, 2, 3):
            for heap in itertools.product(subsets, repeat=many):
                self.held(heap)

    def test_heaps_of_nine_without_alike_ones(self):
        chance = random.Random(22)
        every = [marks for many in range(5) for marks in itertools.combinations(range(4), many)]
        numbers = [self.held(tuple(chance.sample(every, 9))) for turn in range(60)]
        self.assertGreaterEqual(len(set(numbers)), 3)


class MoreBy(Asking, unittest.TestCase):
    """[53]"""

    def test_marks_of_a_sheet_of_the_heap(self):
        for heap in HEAPS + STREWN_HEAPS[::4]:
            for marks in heap:
                self.assertEqual(more_by(heap, marks), 0)

    def test_no_marks_and_all(self):
        for heap in HEAPS:
            self.assertEqual(more_by(heap, ()), 0)
            self.assertEqual(more_by(heap, EVERY), 0)

    def test_a_heap_of_nine(self):
        self.assertEqual(len(ALL_STRANGE), 9)
        self.assertEqual(more_by(ALL_STRANGE, (6, 7)), 1)
        self.assertEqual(more_by(ALL_STRANGE, (5,)), 0)
        self.assertEqual(more_by(ALL_STRANGE, (0, 1, 7)), 0)
        self.assertEqual(more_by(GROWING, (7,)), 1)
        self.assertEqual(more_by(GROWING, (0, 1, 2)), 0)

    def test_searched(self):
        chance = random.Random(23)
        told = []
        for heap in HEAPS + STREWN_HEAPS:
            marks = tuple(mark for mark in range(8) if chance.random() < 0.3)
            wanted = oracle.fewest_rows(heap + (marks,)) - oracle.fewest_rows(heap)
            told.append(self.own_answer(more_by, heap, marks))
            self.assertEqual(told[-1], wanted, (heap, marks))
            self.assertIs(told[-1].__class__, int)
        self.assertGreater(min(told.count(0), told.count(1)), 20)


class Needed(Asking, unittest.TestCase):
    """[53]"""

    def test_a_heap_of_one(self):
        for heap in [((),), ((0,),), (EVERY,)]:
            self.assertEqual(self.own_answer(needed, heap), [])

    def test_heaps_of_several(self):
        self.assertEqual(needed(((0,), (1,))), [0, 1])
        self.assertEqual(needed(((0,), (0,))), [])
        self.assertEqual(needed(((0,), (0, 1))), [])
        self.assertEqual(needed(((0,), (0,), (1,))), [2])
        self.assertEqual(needed(((1,), (0,), (0,))), [0])
        self.assertEqual(needed(ALL_STRANGE), list(range(9)))
        self.assertEqual(needed(ALIKE), [])
        self.assertEqual(needed(GROWING), [])

    def test_searched(self):
        mixed = 0
        for heap in HEAPS + STREWN_HEAPS:
            told = self.own_answer(needed, heap)
            self.assertIsInstance(told, list)
            if len(heap) > 1:
                many = oracle.fewest_rows(heap)
                self.assertEqual(told, [place for place in range(len(heap))
                                        if oracle.fewest_rows(heap[:place] + heap[place + 1:]) < many], heap)
                mixed += 0 < len(told) < len(heap)
        self.assertGreater(mixed, 20)


class Refusals(Asking, unittest.TestCase):
    """[4], [5]"""

    def test_each_wrong_thing_by_itself(self):
        self.each_refused(CALLS, RIGHT, WRONG, DUE)

    def test_the_leftmost_of_several_is_refused(self):
        self.leftmost_refused(CALLS, RIGHT, WRONG, DUE)

    def test_heaps_at_the_bounds(self):
        for many in range(1, 10):
            heap = ((),) * many
            self.assertEqual((fewest(heap), more_by(heap, (0,)), needed(heap)), (1, 0, []))
            self.assertEqual((len(rows_of(heap)), len(strangers_of(heap))), (1, 1))
        for heap in [(), ((),) * 10, [()], [(), ()], ((), None), (None, ()), ((0,), (1, 0)), ((0,), [1]), ((8,),)]:
            self.refused(NoHeap, are_rows, [heap, ((0,),)])
            self.refused(NoHeap, are_strangers, [heap, ()])
            self.refused(NoHeap, more_by, [heap, None])
            self.refused(NoHeap, more_by, [heap, (0,)])
            for deed in (fewest, rows_of, strangers_of, needed):
                self.refused(NoHeap, deed, [heap])

    def test_what_is_told_is_of_its_kind(self):
        for heap in HEAPS:
            self.assertIs(fewest(heap).__class__, int)
            self.assertTrue(all(isinstance(row, tuple) for row in (rows_of(heap),) + rows_of(heap)))
            self.assertIsInstance(strangers_of(heap), tuple)
            self.own_answer(are_rows, heap, rows_of(heap))
            self.own_answer(are_strangers, heap, strangers_of(heap))


if __name__ == "__main__":
    unittest.main()
