"""The plain kinds that all modules share: marks, moulds, days and sorts as numbers, and what rises."""

from twinmoulds.errors import NoDay, NoMould, NoSort

MARKS = 8
MOULDS = 4
DAYS = 31
SORTS = 3


def is_number(thing):
    """Tell whether a thing is a whole number from 0 on."""
    # Python counts True and False among the whole numbers, the program doesn't.
    return isinstance(thing, int) and not isinstance(thing, bool) and thing >= 0


def is_below(thing, many):
    """Tell whether a thing is a whole number from 0 on and less than many."""
    return is_number(thing) and thing < many


def is_mark(thing):
    """Tell whether a thing is a mark."""
    return is_below(thing, MARKS)


def is_mould(thing):
    """Tell whether a thing is a mould."""
    return is_below(thing, MOULDS)


def is_day(thing):
    """Tell whether a thing is a day."""
    return is_below(thing, DAYS)


def is_rising(things):
    """Tell whether each of some things, which compare with one another, is greater than the one ahead."""
    return all([ahead < behind for ahead, behind in zip(things, things[1:])])


def need_mould(thing):
    """Refuse what is no mould."""
    if not is_mould(thing):
        raise NoMould("a mould is a whole number from 0 to 3")


def need_day(thing):
    """Refuse what is no day."""
    if not is_day(thing):
        raise NoDay("a day is a whole number from 0 to 30")


def need_sort(thing):
    """Refuse what is no sort."""
    if not is_below(thing, SORTS):
        raise NoSort("a sort is a whole number from 0 to 2")
