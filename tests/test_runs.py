import itertools
import random
import unittest

from tests import oracle
from tests.asking import Asking
from tests.samples import ODD_THINGS, WRONG_RUNS, strewn_lines
from twinmoulds import runs
from twinmoulds.errors import NoLaying, NoRun
from twinmoulds.runs import best_laying, breaks_of, is_laying, is_paper, paper_of

ALIKE = ((),) * 10
GROWING = tuple(tuple(range(many)) for many in range(9)) + (tuple(range(8)),)
BY_TURNS = ((0,), (1,), (0,), (1,), (0, 2), (1, 3), (0, 2), (1, 3), (0, 2), (1, 3))
# The fourth sheet has the marks of neither mould.
NO_WAY = ((0,), (1,), (0,), (2,))
ONE_BREAK = ((0,), (1,), (1,), (0,), (1,))
RUNS = [((),), ((0, 7),), ((0,), (1,)), ((0,), (0,)), ALIKE, GROWING, BY_TURNS, NO_WAY, ONE_BREAK,
        ((0,), (1,), (2,)), ((0, 1), (0,), (0, 1), (0,)), tuple(reversed(GROWING))[7:]]
STREWN_RUNS = strewn_lines(10, 3)

CALLS = [(is_laying, ["run", "thing"]), (breaks_of, ["run", "laying"]), (best_laying, ["run"]),
         (is_paper, ["run", "thing"]), (paper_of, ["run"])]
NO_LAYINGS = ODD_THINGS + [(), 0, (0,), (1, 0, 0, 1, 0), [0, 1, 1, 0, 1], (0, 1, 1, 0), (0, 1, 1, 0, 1, 0)]
RIGHT = {"run": ONE_BREAK, "laying": (0, 1, 1, 0, 1), "thing": (0, 1, 1, 0, 1)}
WRONG = {"run": WRONG_RUNS, "laying": NO_LAYINGS}
DUE = {"run": NoRun, "laying": NoLaying}


def with_other(thing, at, other):
    return thing[:at] + (other,) + thing[at + 1:]


def papers_with(paper, change):
    """A paper with one thing otherwise, for each thing, as change tells of it."""
    return [with_other(paper, place, with_other(row, at, other))
            for place, row in enumerate(paper) for at, thing in enumerate(row) for other in change(thing)]


def run_with_both(laying, other):
    """A run of which both are layings: each sheet has a mark of its own, and those of the sheets that it must have."""
    run = []
    for place in range(len(laying)):
        marks = {place}
        for ahead in range(place):
            if laying[ahead] == laying[place] or other[ahead] == other[place]:
                marks |= set(run[ahead])
        run.append(tuple(sorted(marks)))
    return tuple(run)


class Interface(Asking, unittest.TestCase):
    def test_names_and_arguments(self):
        self.named(runs, CALLS)


class Layings(Asking, unittest.TestCase):
    """[41]"""

    def test_one_sheet(self):
        for run in [((),), ((0, 7),)]:
            self.truth(True, is_laying, run, (0,))
            for thing in [(), (1,), (0, 0), (0, 1), (-1,), (2,), (True,), (False,), (None,), [0], 0, "0"]:
                self.truth(False, is_laying, run, thing)
            self.assertEqual(breaks_of(run, (0,)), [])
            self.assertEqual(best_laying(run), (0,))

    def test_ten_sheets(self):
        self.truth(True, is_laying, BY_TURNS, (0, 1) * 5)
        self.truth(True, is_laying, ALIKE, (0,) * 10)
        self.assertEqual(best_laying(BY_TURNS), (0, 1) * 5)
        self.assertEqual(breaks_of(ALIKE, (0,) * 10), [1, 2, 3, 4, 5, 6, 7, 8, 9])
        self.assertEqual(breaks_of(BY_TURNS, (0, 1) * 5), [])

    def test_every_laying_and_no_other(self):
        for run in RUNS + STREWN_RUNS[::3]:
            wanted = oracle.layings(run)
            for laying in itertools.product((0, 1), repeat=len(run)):
                self.assertIs(is_laying(run, laying), laying in wanted, (run, laying))

    def test_one_number_otherwise(self):
        for at in range(10):
            self.truth(False, is_laying, BY_TURNS, with_other((0, 1) * 5, at, (1, 0)[at % 2]))
            for wrong in [2, -1, True, False, None, "0", (), [0], {}, (0,), 10 ** 29]:
                self.truth(False, is_laying, ALIKE, with_other((0,) * 10, at, wrong))

    def test_a_number_more_or_fewer(self):
        for run in RUNS:
            laying = best_laying(run)
            if laying is not None:
                self.truth(True, is_laying, run, laying)
                for thing in [laying[:-1], laying + (0,), laying + (1,), (0,) + laying, list(laying), (laying,),
                              laying[1:], dict(enumerate(laying)), str(laying)]:
                    self.truth(False, is_laying, run, thing)

    def test_a_laying_begins_with_0(self):
        self.truth(True, is_laying, ALIKE, (0, 1) * 5)
        self.truth(False, is_laying, ALIKE, (1, 0) * 5)
        self.truth(False, is_laying, ALIKE, (1,) * 10)

    def test_marks_of_each_sheet_ahead(self):
        run = ((0, 1), (), (0,), (0, 1))
        self.truth(False, is_laying, run, (0, 1, 0, 0))
        self.truth(True, is_laying, run, (0, 1, 1, 0))
        self.truth(True, is_laying, run, (0, 1, 1, 1))
        self.truth(False, is_laying, run, (0, 0, 1, 1))

    def test_things_of_other_kinds(self):
        for run in RUNS:
            for thing in ODD_THINGS + WRONG_RUNS[:40]:
                if thing != (0,):
                    self.truth(False, is_laying, run, thing)

    def test_breaks_at_each_place(self):
        for laying in itertools.product((0, 1), repeat=9):
            laying = (0,) + laying
            told = breaks_of(ALIKE, laying)
            self.assertEqual(told, [at for at in range(1, 10) if laying[at] == laying[at - 1]])
        for at in range(1, 10):
            laying = tuple((place - (place >= at)) % 2 for place in range(10))
            self.assertEqual(breaks_of(ALIKE, laying), [at])

    def test_breaks_of_what_is_no_laying(self):
        for run in RUNS:
            for thing in ODD_THINGS + [(), (1,), (1,) * len(run), [0] * len(run), (0,) * (len(run) + 1)]:
                self.refused(NoLaying, breaks_of, [run, thing])
        self.refused(NoLaying, breaks_of, [BY_TURNS, (0,) * 10])

    def test_best_laying_where_there_is_none(self):
        for run in [NO_WAY, ((0,), (1,), (2,)), ((0, 1, 2), (0, 1), (0,))]:
            self.assertEqual(oracle.layings(run), [])
            self.assertIsNone(best_laying(run))

    def test_best_laying_has_the_fewest_breaks(self):
        self.assertEqual(best_laying(ONE_BREAK), (0, 1, 1, 0, 1))
        self.assertEqual(best_laying(ALIKE), (0, 1) * 5)
        self.assertEqual(best_laying(((), (0,), (), (), (0,))), (0, 1, 0, 0, 1))
        self.assertEqual(best_laying(((0,), (0, 1), (1,), (0, 1))), (0, 0, 1, 0))
        several = 0
        for run in RUNS + STREWN_RUNS:
            found = sorted((len(oracle.breaks(laying)), laying) for laying in oracle.layings(run))
            self.assertEqual(self.own_answer(best_laying, run), found[0][1] if found else None, run)
            several += len(found) > 1 and found[0][0] > 0
        self.assertGreater(several, 10)

    def test_no_two_layings_have_the_fewest_breaks(self):
        # Two layings of one run with as few breaks would ask for which is the first; up to seven sheets it is
        # tried here, with as few marks shared as two layings leave, that a third one then has fewer.
        for many in range(2, 8):
            laid = [(0,) + rest for rest in itertools.product((0, 1), repeat=many - 1)]
            for two in itertools.combinations(laid, 2):
                if len(oracle.breaks(two[0])) == len(oracle.breaks(two[1])):
                    run = run_with_both(*two)
                    self.assertTrue(all(is_laying(run, laying) for laying in two))
                    self.assertLess(len(breaks_of(run, best_laying(run))), len(oracle.breaks(two[0])))

class Papers(Asking, unittest.TestCase):
    """[42]"""

    def test_told_papers(self):
        self.assertEqual(paper_of(((),)), ((0,),))
        self.assertEqual(paper_of(((0,), (1,))), ((0,), (0, 0)))
        self.assertEqual(paper_of(((0,), (1,), (2,))), ((None,), (0, None), (0, 0, 0)))
        self.assertEqual(paper_of(((0,), (0,), (1,))), ((1,), (0, None), (0, 0, 0)))
        self.assertEqual(paper_of(((0,), (1,), (1,))), ((1,), (0, 1), (0, 0, 0)))
        self.assertEqual(paper_of(NO_WAY), ((None,), (None, None), (0, None, None), (0, 0, 0, 0)))

    def test_the_greatest_numbers_and_none_wherever_it_may_stand(self):
        nones = 0
        for run in RUNS + STREWN_RUNS:
            told = self.own_answer(paper_of, run)
            self.assertEqual(told, oracle.paper(run), run)
            self.assertTrue(oracle.is_paper(run, told))
            nones += told[0][0] is None
        self.assertGreater(nones, 10)

    def test_the_first_thing_is_the_fewest_breaks(self):
        for run in RUNS + STREWN_RUNS:
            best = best_laying(run)
            self.assertEqual(paper_of(run)[0], (None if best is None else len(breaks_of(run, best)),), run)

    def test_the_told_paper_is_one(self):
        for run in RUNS + STREWN_RUNS:
            self.truth(True, is_paper, run, paper_of(run))

    def test_a_greater_number_is_none_but_where_nothing_asks(self):
        for run in RUNS:
            for paper in papers_with(paper_of(run), lambda thing: [] if thing is None else
                                     [thing + 1, thing + 10 ** 29]):
                self.truth(False, is_paper, run, paper)

    def test_one_thing_otherwise_at_any_place(self):
        answers = {True: 0, False: 0}
        for run in RUNS + STREWN_RUNS[::5]:
            for paper in papers_with(paper_of(run), lambda thing: [0, 1, None] if thing is None else
                                     [thing + 1, None] + [thing - 1] * (thing > 0)):
                wanted = oracle.is_paper(run, paper)
                self.truth(wanted, is_paper, run, paper)
                answers[wanted] += 1
        self.assertGreater(min(answers.values()), 100)

    def test_no_truths_none_below_nought_nor_other_kinds(self):
        for run in [((),), ONE_BREAK, NO_WAY, ((0,), (0,), (1,))]:
            for paper in papers_with(paper_of(run), lambda thing: [True, False, -1, -(10 ** 29), "", "0", (), [], [0],
                                                                   {}, (0,), (None,)]):
                self.truth(False, is_paper, run, paper)

    def test_none_where_it_may_not_stand(self):
        for run in RUNS:
            for paper in papers_with(paper_of(run), lambda thing: [] if thing is None else [None]):
                self.truth(False, is_paper, run, paper)

    def test_a_number_for_none(self):
        # From (1, 0) and (0, -1) there is no way on: a number may stand there as well.
        run = ((0,), (1,), (2,))
        self.truth(True, is_paper, run, ((None,), (0, None), (0, 0, 0)))
        self.truth(True, is_paper, run, ((5,), (0, None), (0, 0, 0)))
        self.truth(True, is_paper, run, ((10 ** 29,), (0, 10 ** 29), (0, 0, 0)))
        self.truth(True, is_paper, run, ((3,), (0, 3), (0, 0, 0)))
        self.truth(False, is_paper, run, ((4,), (0, 3), (0, 0, 0)))
        self.truth(False, is_paper, run, ((None,), (0, 3), (0, 0, 0)))
        self.truth(False, is_paper, run, ((None,), (1, None), (0, 0, 0)))
        self.truth(False, is_paper, run, ((None,), (None, None), (0, 0, 0)))

    def test_of_the_last_place_all_are_0(self):
        for run in [((),), ((0,), (1,)), ONE_BREAK]:
            paper = paper_of(run)
            for at in range(len(run)):
                for wrong in (1, None, False, -1):
                    self.truth(False, is_paper, run, paper[:-1] + (with_other(paper[-1], at, wrong),))

    def test_a_break_lets_one_more_stand(self):
        run = ((0,), (0,), (1,))
        self.truth(True, is_paper, run, ((1,), (0, None), (0, 0, 0)))
        self.truth(True, is_paper, run, ((0,), (0, None), (0, 0, 0)))
        self.truth(False, is_paper, run, ((2,), (0, None), (0, 0, 0)))
        self.truth(False, is_paper, run, ((1,), (0, 0), (0, 0, 0)))

    def test_all_numbers_less_by_as_much(self):
        lessened = 0
        for run in RUNS + STREWN_RUNS:
            told = paper_of(run)
            for less in (1, 2, 10):
                paper = tuple(tuple(thing if thing is None else max(0, thing - less) for thing in row) for row in told)
                self.truth(True, is_paper, run, paper)
                lessened += paper != told
        self.assertGreater(lessened, 20)

    def test_rows_more_fewer_longer_shorter_exchanged(self):
        for run in RUNS:
            told = paper_of(run)
            others = [told[:-1], told[1:], told + (told[-1],), told + ((0,) * (len(run) + 1),), told + ((),), (),
                      ((),) + told, tuple(reversed(told)) if len(run) > 1 else (), list(told), (told,),
                      tuple(list(row) for row in told), [list(row) for row in told], dict(enumerate(told))]
            for place, row in enumerate(told):
                others += [with_other(told, place, row + (0,)), with_other(told, place, row + (None,)),
                           with_other(told, place, row[:-1]), with_other(told, place, row[1:]),
                           with_other(told, place, list(row)), with_other(told, place, None),
                           with_other(told, place, (row,)), with_other(told, place, ())]
            for one, other in itertools.combinations(range(len(run)), 2):
                others.append(with_other(with_other(told, one, told[other]), other, told[one]))
            for thing in others:
                self.truth(False, is_paper, run, thing)

    def test_things_of_other_kinds(self):
        for run in RUNS:
            for thing in ODD_THINGS + [0, (0,), ((0,), (0,)), (None,) * len(run), ((),) * len(run), best_laying(run)]:
                self.truth(False, is_paper, run, thing)

    def test_strewn_papers(self):
        chance = random.Random(8)
        answers = {True: 0, False: 0}
        for run in RUNS + STREWN_RUNS:
            for turn in range(6):
                paper = [list(row) for row in paper_of(run)]
                for row in paper[:-1]:
                    for at in range(len(row)):
                        if chance.random() < 0.15:
                            row[at] = chance.choice([None, 0, 1, 2, max(0, (row[at] or 0) - 1)])
                paper = tuple(tuple(row) for row in paper)
                wanted = oracle.is_paper(run, paper)
                self.truth(wanted, is_paper, run, paper)
                answers[wanted] += 1
        self.assertGreater(min(answers.values()), 100)


class Refusals(Asking, unittest.TestCase):
    """[4], [5]"""

    def test_each_wrong_thing_by_itself(self):
        self.each_refused(CALLS, RIGHT, WRONG, DUE)

    def test_the_leftmost_of_several_is_refused(self):
        self.leftmost_refused(CALLS, RIGHT, WRONG, DUE)

    def test_runs_at_the_bounds(self):
        for many in range(1, 11):
            self.assertEqual(len(best_laying(((),) * many)), many)
            self.assertEqual(len(paper_of(((0,),) * many)), many)
        for run in [(), ((),) * 11, [()], [(), ()], ((), None), (None, ()), ((0,), (1, 0)), ((0,), [1]), ((8,),)]:
            self.refused(NoRun, is_laying, [run, (0,)])
            self.refused(NoRun, breaks_of, [run, None])
            self.refused(NoRun, best_laying, [run])
            self.refused(NoRun, is_paper, [run, ((0,),)])
            self.refused(NoRun, paper_of, [run])

    def test_asked_again_the_answer_is_the_same(self):
        for run in RUNS + STREWN_RUNS[::7]:
            best = self.own_answer(best_laying, run)
            self.assertIsInstance(best, (tuple, type(None)))
            if best is not None:
                self.assertIsInstance(self.own_answer(breaks_of, run, best), list)
            self.assertTrue(all(isinstance(row, tuple) for row in self.own_answer(paper_of, run)))
            self.own_answer(is_paper, run, paper_of(run))
            self.own_answer(is_laying, run, (0,) * len(run))


if __name__ == "__main__":
    unittest.main()
