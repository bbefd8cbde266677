"""Runs of sheets that two moulds made by turns, their layings, and the paper on their fewest breaks."""

from twinmoulds.errors import NoLaying, NoRun
from twinmoulds.kinds import is_below, is_number
from twinmoulds.pages import are_laid_marks, has_all

RUN = 10
TWINS = 2
NO_OTHER = -1


def is_laying(run, thing):
    """Tell whether a thing is a laying of the run."""
    need_run(run)
    return is_laid(run, thing)


def breaks_of(run, laying):
    """Tell the rising list of the breaks of a laying."""
    need_run(run)
    if not is_laid(run, laying):
        raise NoLaying("a laying tells of each sheet of the run the mould, 0 or 1, by which it can be")
    return breaks_in(laying)


def best_laying(run):
    """Tell the laying of the run with the fewest breaks, of several the first, None where there is none."""
    need_run(run)
    return min(layings(run), key=by_breaks, default=None)


def is_paper(run, thing):
    """Tell whether a thing is a paper of the run."""
    need_run(run)
    return is_table(run, thing) and all([is_proved(run, thing, place) for place in range(len(run))])


def paper_of(run):
    """Tell the paper of the run with the greatest numbers, and None wherever it may stand."""
    need_run(run)
    paper = ((0,) * len(run),)
    for place in reversed(range(len(run) - 1)):
        bounds = [bounds_at(run, place, other, paper[0]) for other in range(NO_OTHER, place)]
        paper = (tuple([min(numbers, default=None) for numbers in bounds]),) + paper
    return paper


def need_run(thing):
    """Refuse what is no run."""
    if not are_laid_marks(thing, RUN):
        raise NoRun("a run is a tuple of one to ten marks")


def is_laid(run, thing):
    """Tell whether a thing tells a mould for each sheet of a run, the first 0, by which it can be."""
    if not isinstance(thing, tuple) or len(thing) != len(run):
        return False
    return (all([is_below(mould, TWINS) for mould in thing]) and thing[0] == 0
            and all([may_lay(run, thing[:at], thing[at]) for at in range(len(run))]))


def may_lay(run, laid, mould):
    """Tell whether the sheet behind those laid can be by the mould: it has all marks of each of its sheets."""
    marks = run[len(laid)]
    return all([has_all(marks, run[at]) for at in range(len(laid)) if laid[at] == mould])


def layings(run):
    """Tell the rising list of all layings of a run."""
    told = [(0,)]
    for at in range(1, len(run)):
        told = [laid + (mould,) for laid in told for mould in range(TWINS) if may_lay(run, laid, mould)]
    return told


def breaks_in(laying):
    """Tell the rising list of the places whose number is that of the place ahead."""
    return [at for at in range(1, len(laying)) if laying[at] == laying[at - 1]]


def by_breaks(laying):
    """Tell by what layings are put in order: how many breaks they have, then their numbers."""
    return (len(breaks_in(laying)), laying)


def ways_on(run, place, other):
    """Tell for each stand to which the run goes on from a stand its other, and how many breaks that makes."""
    marks = run[place + 1]
    ways = []
    if has_all(marks, run[place]):
        ways.append((other, 1))
    if other == NO_OTHER or has_all(marks, run[other]):
        ways.append((place, 0))
    return ways


def bounds_at(run, place, other, after):
    """Tell the numbers beyond which none may stand at (place, other), by the row of the place after it."""
    # A row begins with what stands for no other, so each other lies one further on.
    return [after[beside + 1] + breaks for beside, breaks in ways_on(run, place, other)
            if after[beside + 1] is not None]


def is_table(run, thing):
    """Tell whether a thing is a tuple with a row of numbers and None, as long as it must be, for each place."""
    return (isinstance(thing, tuple) and len(thing) == len(run)
            and all([are_numbers(row, place + 1) for place, row in enumerate(thing)]))


def are_numbers(thing, many):
    """Tell whether a thing is a tuple of so many whole numbers from 0 on or None."""
    return (isinstance(thing, tuple) and len(thing) == many
            and all([number is None or is_number(number) for number in thing]))


def is_proved(run, table, place):
    """Tell whether all that a table has for a place may stand there."""
    row = table[place]
    if place == len(run) - 1:
        return all([number == 0 for number in row])
    return all([may_stand(row[other + 1], bounds_at(run, place, other, table[place + 1]))
                for other in range(NO_OTHER, place)])


def may_stand(number, bounds):
    """Tell whether a number, or None, may stand where these bounds are set."""
    if number is None:
        return bounds == []
    return all([number <= bound for bound in bounds])
