"""Heaps of sheets in no order: the fewest moulds that explain them, as rows and as strangers."""

from twinmoulds.errors import NoHeap
from twinmoulds.kinds import is_below, is_rising
from twinmoulds.pages import are_laid_marks, has_all, need_marks

HEAP = 9


def are_rows(heap, thing):
    """Tell whether a thing is rows of the heap."""
    need_heap(heap)
    if not isinstance(thing, tuple) or not all([is_row(heap, row) for row in thing]):
        return False
    return sorted([place for row in thing for place in row]) == list(range(len(heap)))


def are_strangers(heap, thing):
    """Tell whether a thing is strangers of the heap."""
    need_heap(heap)
    return (are_places(heap, thing) and is_rising(thing)
            and all([is_strange(heap, thing[:at], thing[at]) for at in range(len(thing))]))


def fewest(heap):
    """Tell the fewest rows that the heap has."""
    need_heap(heap)
    return len(most_strangers(heap))


def rows_of(heap):
    """Tell rows of the heap, as few as there can be."""
    need_heap(heap)
    ahead = places_ahead(heap)
    behind = {ahead[place]: place for place in ahead}
    return tuple([row_from(place, behind) for place in range(len(heap)) if place not in ahead])


def strangers_of(heap):
    """Tell strangers of the heap, as many as there can be."""
    need_heap(heap)
    return most_strangers(heap)


def more_by(heap, marks):
    """Tell by how many the fewest rows are more when a sheet with these marks is laid to the heap."""
    need_heap(heap)
    need_marks(marks)
    return len(most_strangers(heap + (marks,))) - len(most_strangers(heap))


def needed(heap):
    """Tell the rising list of the places without each of which the heap has fewer rows."""
    need_heap(heap)
    if len(heap) == 1:
        # Nothing is no heap, so there are no rows of it to be fewer.
        return []
    many = len(most_strangers(heap))
    return [place for place in range(len(heap)) if len(most_strangers(heap[:place] + heap[place + 1:])) < many]


def need_heap(thing):
    """Refuse what is no heap."""
    if not are_laid_marks(thing, HEAP):
        raise NoHeap("a heap is a tuple of one to nine marks")


def are_places(heap, thing):
    """Tell whether a thing is a tuple of places of a heap."""
    return isinstance(thing, tuple) and all([is_below(place, len(heap)) for place in thing])


def is_row(heap, thing):
    """Tell whether a thing is a tuple of places, one at least, each sheet with all marks of the one ahead."""
    return (are_places(heap, thing) and len(thing) > 0
            and all([has_all(heap[behind], heap[ahead]) for ahead, behind in zip(thing, thing[1:])]))


def is_strange(heap, places, place):
    """Tell whether the sheet of a place can be of one mould with none of those of some places."""
    marks = heap[place]
    return not any([has_all(marks, heap[other]) or has_all(heap[other], marks) for other in places])


def most_strangers(heap):
    """Tell strangers of a heap, or of one sheet more, as many as there can be."""
    # No row holds two strangers, and by Dilworth's theorem the fewest rows are as many as the most strangers.
    told = [()]
    for place in range(len(heap)):
        told = told + [places + (place,) for places in told if is_strange(heap, places, place)]
    return max(told, key=len)


def places_ahead(heap):
    """Tell for as many places as can be the place that stands straight ahead in a row, each ahead of one alone."""
    ahead = {}
    for place in range(len(heap)):
        find_behind(heap, place, ahead, {})
    return ahead


def find_behind(heap, place, ahead, tried):
    """Tell whether a place can stand ahead of another one, and lay it so, others laid anew where they must."""
    for other in range(len(heap)):
        if other not in tried and may_follow(heap, place, other):
            tried[other] = True
            if other not in ahead or find_behind(heap, ahead[other], ahead, tried):
                ahead[other] = place
                return True
    return False


def may_follow(heap, place, other):
    """Tell whether the sheet of the other place may stand behind that of a place in a row."""
    # Of sheets alike the one of the lower place stands ahead, so no row runs in a ring.
    return has_all(heap[other], heap[place]) and (heap[other] != heap[place] or place < other)


def row_from(place, behind):
    """Tell the row that begins with a place."""
    row = [place]
    while row[-1] in behind:
        row.append(behind[row[-1]])
    return tuple(row)
