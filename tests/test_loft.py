import inspect
import random
import unittest

from tests import keepers
from tests.asking import Asking
from tests.samples import WRONG_COUNTS, WRONG_SORTS
from twinmoulds.counts import counted
from twinmoulds.errors import Lacking, NoCount, NoSort, TooMany
from twinmoulds.loft import Loft

MOST = (999, 19, 23)
NONE = (0, 0, 0)


def stocked(*counts):
    """A new loft with these counts of the sorts 0, 1 and 2."""
    loft = Loft()
    for sort, count in enumerate(counts):
        loft.put(sort, count)
    return loft


def state(loft):
    return [loft.stock(sort) for sort in range(3)] + [loft.broken()]


class Interface(unittest.TestCase):
    def test_names_and_arguments(self):
        self.assertEqual(list(inspect.signature(Loft).parameters), [])
        for name, wanted in [("put", ["sort", "count"]), ("take", ["sort", "count"]), ("stock", ["sort"]),
                             ("broken", [])]:
            self.assertEqual(list(inspect.signature(getattr(Loft(), name)).parameters), wanted, name)


class Keeping(Asking, unittest.TestCase):
    """[62]"""

    def test_at_first_there_is_none(self):
        self.assertEqual(state(Loft()), [NONE, NONE, NONE, 0])

    def test_counts_are_put_and_taken(self):
        loft = Loft()
        for sort in range(3):
            loft.put(sort, (0, 19, 23))
            loft.put(sort, (0, 0, 2 + sort))
            self.assertEqual(loft.stock(sort), (1, 0, 1 + sort))
            loft.take(sort, (0, 1, 1 + sort))
            self.assertEqual(loft.stock(sort), (0, 19, 0))

    def test_each_sort_by_itself(self):
        loft = stocked((1, 2, 3), (4, 5, 6), (7, 8, 9))
        self.assertEqual(state(loft), [(1, 2, 3), (4, 5, 6), (7, 8, 9), 3])
        loft.take(1, (4, 5, 6))
        self.assertEqual(state(loft), [(1, 2, 3), NONE, (7, 8, 9), 2])

    def test_deeds_tell_none(self):
        loft = Loft()
        self.assertIsNone(loft.put(0, (1, 0, 0)))
        self.assertIsNone(loft.take(0, (0, 1, 0)))
        self.assertIsNone(loft.put(0, NONE))
        self.assertIsNone(loft.take(0, NONE))

    def test_nothing_put_and_nothing_taken(self):
        loft = Loft()
        loft.take(2, NONE)
        loft.put(2, NONE)
        self.assertEqual(state(loft), [NONE, NONE, NONE, 0])
        full = stocked(MOST)
        full.put(0, NONE)
        self.assertEqual(full.stock(0), MOST)

    def test_to_the_most_and_no_further(self):
        for sort in range(3):
            loft = Loft()
            loft.put(sort, (999, 19, 22))
            loft.put(sort, (0, 0, 1))
            self.assertEqual(loft.stock(sort), MOST)
            before = state(loft)
            for count, many in [((0, 0, 1), 480000), ((0, 1, 0), 480023), ((1, 0, 0), 480479), (MOST, 959998)]:
                refusal = self.refused(TooMany, loft.put, [sort, count])
                self.assertEqual(refusal.many, many)
                self.assertIs(refusal.many.__class__, int)
                self.assertEqual(state(loft), before)
            loft.take(sort, (0, 0, 1))
            self.assertEqual(loft.stock(sort), (999, 19, 22))

    def test_the_most_is_of_each_sort_by_itself(self):
        loft = stocked(MOST, MOST, MOST)
        self.assertEqual(state(loft), [MOST, MOST, MOST, 3])
        self.assertEqual(self.refused(TooMany, loft.put, [2, (0, 0, 2)]).many, 480001)

    def test_as_many_as_there_are_and_no_more(self):
        for sort in range(3):
            for count in [NONE, (0, 0, 5), (0, 1, 0), (3, 2, 1), MOST]:
                loft = Loft()
                loft.put(sort, count)
                loft.take(sort, count)
                self.assertEqual(state(loft), [NONE, NONE, NONE, 0])
                refusal = self.refused(Lacking, loft.take, [sort, (0, 0, 1)])
                self.assertEqual(refusal.many, 1)
                self.assertIs(refusal.many.__class__, int)

    def test_how_many_are_lacking(self):
        loft = stocked((0, 1, 1), MOST)
        before = state(loft)
        for count, many in [((0, 1, 2), 1), ((0, 2, 0), 23), ((1, 0, 0), 455), (MOST, 479974)]:
            self.assertEqual(self.refused(Lacking, loft.take, [0, count]).many, many)
            self.assertEqual(state(loft), before)
        self.assertEqual(self.refused(Lacking, loft.take, [2, MOST]).many, 479999)

    def test_broken_quires(self):
        for counts, wanted in [([NONE] * 3, 0), ([(1, 1, 0)] * 3, 0), ([(0, 0, 1), NONE, NONE], 1),
                               ([NONE, (0, 0, 23), (9, 9, 0)], 1), ([(0, 1, 1), NONE, (1, 0, 1)], 2),
                               ([(0, 0, 1), (0, 0, 2), (0, 0, 23)], 3), ([MOST] * 3, 3)]:
            loft = stocked(*counts)
            self.assertEqual((loft.broken(), loft.broken()), (wanted, wanted))
            self.assertIs(loft.broken().__class__, int)

    def test_a_quire_is_broken_and_made_whole(self):
        loft = stocked((0, 1, 0))
        loft.take(0, (0, 0, 1))
        self.assertEqual(loft.broken(), 1)
        loft.put(0, (0, 0, 1))
        self.assertEqual((loft.broken(), loft.stock(0)), (0, (0, 1, 0)))

    def test_two_lofts(self):
        one, other = Loft(), Loft()
        one.put(0, (1, 2, 3))
        self.assertEqual(state(other), [NONE, NONE, NONE, 0])
        other.put(1, (3, 2, 1))
        other.put(1, one.stock(0))
        self.assertEqual(state(one), [(1, 2, 3), NONE, NONE, 1])
        self.assertEqual(state(other), [NONE, (4, 4, 4), NONE, 1])

    def test_strewn_deeds(self):
        chance = random.Random(62)
        seen = {TooMany: 0, Lacking: 0, None: 0}
        for turn in range(40):
            loft, plain = Loft(), keepers.Loft()
            for deed in range(60):
                sort, sheets = chance.randrange(3), chance.randrange(chance.choice([3, 50, 5000, 480000]))
                word = chance.choice(["put", "put", "take"])
                due = getattr(plain, word)(sort, sheets)
                handed = [sort, counted(sheets)]
                if due:
                    self.assertEqual(self.refused(due[0], getattr(loft, word), handed).many, due[1])
                else:
                    self.assertIsNone(getattr(loft, word)(*handed))
                seen[due and due[0]] += 1
                self.assertEqual(state(loft), [counted(plain.many[each]) for each in range(3)] + [plain.broken()])
        self.assertGreater(min(seen.values()), 50)


class Refusals(Asking, unittest.TestCase):
    """[5], [62]"""

    def setUp(self):
        self.loft = stocked((1, 2, 3), NONE, MOST)
        self.before = state(self.loft)

    def tearDown(self):
        self.assertEqual(state(self.loft), self.before)

    def test_no_sort(self):
        for sort in [-1, 3, True, False, None, "0", ""] + WRONG_SORTS:
            self.refused(NoSort, self.loft.put, [sort, NONE])
            self.refused(NoSort, self.loft.take, [sort, NONE])
            self.refused(NoSort, self.loft.stock, [sort])

    def test_no_count(self):
        for count in WRONG_COUNTS:
            for sort in range(3):
                self.refused(NoCount, self.loft.put, [sort, count])
                self.refused(NoCount, self.loft.take, [sort, count])

    def test_a_sort_is_looked_at_first(self):
        chance = random.Random(4)
        for count in WRONG_COUNTS + [(0, 0, 1), MOST]:
            sort = chance.choice(WRONG_SORTS)
            self.refused(NoSort, self.loft.put, [sort, count])
            self.refused(NoSort, self.loft.take, [sort, count])


if __name__ == "__main__":
    unittest.main()
