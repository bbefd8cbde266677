import random
import unittest

from tests.asking import Asking
from tests.samples import ODD_THINGS, WRONG_COUNTS
from twinmoulds import counts
from twinmoulds.counts import counted, sheets_in, summed
from twinmoulds.errors import NoCount, NoNumber, TooMany

MOST = (999, 19, 23)

CALLS = [(counted, ["sheets"]), (sheets_in, ["count"]), (summed, ["counts"])]
RIGHT = {"sheets": 0, "count": (0, 0, 0), "counts": []}
WRONG_NUMBERS = [thing for thing in ODD_THINGS if thing != 31] + [
    480000, 480001, 10 ** 29, (), (0,), (0, 0, 0), "480", [480], {480: 1}]
WRONG_LISTS = [thing for thing in ODD_THINGS if thing != []] + [
    0, (), (0, 0, 0), ((0, 0, 0),), ((0, 0, 0), (0, 0, 1)), ((0, 0, 0),) * 20, [(0, 0, 0)] * 21, [(0, 0, 0)] * 500,
    [MOST] * 21, [[(0, 0, 0)]], [[0, 0, 0]], {(0, 0, 0): 1},
] + [[wrong] for wrong in WRONG_COUNTS] + [[(0, 0, 1), wrong, MOST] for wrong in WRONG_COUNTS]
WRONG = {"sheets": WRONG_NUMBERS, "count": WRONG_COUNTS, "counts": WRONG_LISTS}
DUE = {"sheets": NoNumber, "count": NoCount, "counts": NoCount}


class Interface(Asking, unittest.TestCase):
    def test_names_and_arguments(self):
        self.named(counts, CALLS)


class Counts(Asking, unittest.TestCase):
    """[61]"""

    def test_counted(self):
        for sheets, wanted in [(0, (0, 0, 0)), (1, (0, 0, 1)), (23, (0, 0, 23)), (24, (0, 1, 0)), (25, (0, 1, 1)),
                               (479, (0, 19, 23)), (480, (1, 0, 0)), (481, (1, 0, 1)), (504, (1, 1, 0)),
                               (479999, MOST), (479520, (999, 0, 0)), (479519, (998, 19, 23))]:
            self.assertEqual(self.own_answer(counted, sheets), wanted)
            self.assertEqual(self.own_answer(sheets_in, wanted), sheets)
            self.assertIsInstance(counted(sheets), tuple)

    def test_every_number_of_two_reams_there_and_back(self):
        for sheets in list(range(961)) + list(range(479000, 480000)):
            reams, quires, left = counted(sheets)
            self.assertEqual((reams * 20 + quires) * 24 + left, sheets)
            self.assertTrue(0 <= reams < 1000 and 0 <= quires < 20 and 0 <= left < 24)
            self.assertEqual(sheets_in((reams, quires, left)), sheets)

    def test_sheets_in_at_each_bound(self):
        for count, wanted in [((0, 0, 0), 0), ((0, 0, 23), 23), ((0, 19, 0), 456), ((999, 0, 0), 479520),
                              (MOST, 479999)]:
            self.assertEqual(sheets_in(count), wanted)
        for count in [(0, 0, 24), (0, 20, 0), (1000, 0, 0), (-1, 0, 0), (0, -1, 0), (0, 0, -1), (True, 0, 0),
                      (0, False, 0), (0, 0, True), [0, 0, 0], (0, 0), (0, 0, 0, 0)]:
            self.refused(NoCount, sheets_in, [count])

    def test_no_numbers(self):
        for sheets in (-1, 480000, True, False, None, "0", "", [0], (0,), 10 ** 29):
            self.refused(NoNumber, counted, [sheets])

    def test_summed(self):
        for told, wanted in [([], (0, 0, 0)), ([(0, 0, 0)], (0, 0, 0)), ([MOST], MOST),
                             ([(0, 0, 23), (0, 0, 1)], (0, 1, 0)), ([(0, 19, 23), (0, 0, 1)], (1, 0, 0)),
                             ([(0, 0, 1)] * 20, (0, 0, 20)),
                             ([(49, 19, 23)] * 20, (999, 19, 4)), ([(1, 2, 3), (1, 2, 3)], (2, 4, 6)),
                             ([(999, 19, 22), (0, 0, 1)], MOST), ([(0, 0, 0)] * 19 + [MOST], MOST)]:
            self.assertEqual(self.own_answer(summed, told), wanted)
            self.assertIsInstance(summed(told), tuple)

    def test_too_many(self):
        for told, many in [([MOST, (0, 0, 1)], 480000), ([(0, 0, 1), MOST], 480000), ([(500, 0, 0)] * 2, 480000),
                           ([MOST] * 20, 9599980), ([MOST, MOST], 959998)]:
            refusal = self.refused(TooMany, summed, [told])
            self.assertEqual(refusal.many, many)
            self.assertIs(refusal.many.__class__, int)

    def test_no_lists_of_counts(self):
        for told in [[(0, 0, 0)] * 21, ((0, 0, 0),), (), [(0, 0, 0), None], [(0, 0, 24)], [MOST] * 21,
                     [MOST, MOST, (0, 0, -1)], [[0, 0, 0]], (0, 0, 0), None, {}]:
            self.refused(NoCount, summed, [told])

    def test_strewn_counts(self):
        chance = random.Random(31)
        kinds = {True: 0, False: 0}
        for turn in range(400):
            below = chance.choice([25, 1000, 60000])
            numbers = [chance.randrange(below) for each in range(chance.randrange(21))]
            told = [counted(number) for number in numbers]
            kinds[sum(numbers) < 480000] += 1
            if sum(numbers) < 480000:
                self.assertEqual(summed(told), counted(sum(numbers)))
            else:
                self.assertEqual(self.refused(TooMany, summed, [told]).many, sum(numbers))
        self.assertGreater(min(kinds.values()), 10)


class Refusals(Asking, unittest.TestCase):
    """[4], [5]"""

    def test_each_wrong_thing_by_itself(self):
        self.each_refused(CALLS, RIGHT, WRONG, DUE)

    def test_what_is_done_to_a_list_later_changes_nothing(self):
        told = [(0, 0, 5)]
        first = summed(told)
        told.append((0, 0, 5))
        self.assertEqual((first, summed(told)), ((0, 0, 5), (0, 0, 10)))


if __name__ == "__main__":
    unittest.main()
