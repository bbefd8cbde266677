"""A loft that keeps sheets of three sorts."""

from twinmoulds.counts import counted, sheets_in, summed
from twinmoulds.errors import Lacking
from twinmoulds.kinds import SORTS, need_sort


class Loft:
    """Keeps a count of sheets for each sort."""

    def __init__(self):
        """Begin with no sheets of any sort."""
        self.kept = [counted(0)] * SORTS

    def put(self, sort, count):
        """Put a count of a sort to the loft."""
        need_sort(sort)
        self.kept[sort] = summed([self.kept[sort], count])

    def take(self, sort, count):
        """Take a count of a sort from the loft."""
        need_sort(sort)
        left = sheets_in(self.kept[sort]) - sheets_in(count)
        if left < 0:
            raise Lacking(-left)
        self.kept[sort] = counted(left)

    def stock(self, sort):
        """Tell the count of a sort that the loft has."""
        need_sort(sort)
        return self.kept[sort]

    def broken(self):
        """Tell how many quires stand broken: how many sorts have a count whose sheets aren't 0."""
        return len([count for count in self.kept if count[2] != 0])
