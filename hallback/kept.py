"""Kept: a hall told tick by tick."""

from hallback.errors import CantBe, NoLooks, NoRow, NothingLeft
from hallback.halls import are_looks, columns_of, need_hall, need_rank
from hallback.steps import all_steps, all_up, steps_of
from hallback.told import taken_by
from hallback.ways import all_comings


class Kept:
    """A hall with the ticks and looks that were told of it, of which always some comings do."""

    def __init__(self, hall):
        need_hall(hall)
        self._hall = hall
        self._rows = ()
        self._written = ()
        # What was told ahead of each deed, the first one first.
        self._before = []

    def tick(self, row):
        """A tick goes by with the row of takings."""
        rows = (*self._rows, row)
        if columns_of(self._hall, rows) is None:
            raise NoRow("this makes no book with the ticks so far")
        self._do(rows, self._written)

    def look(self, look):
        """The look is written."""
        if not self._rows or not are_looks(self._hall, self._rows, (look,)):
            raise NoLooks("this is no look of the book so far")
        written = tuple(sorted([*self._written, look]))
        if not are_looks(self._hall, self._rows, written):
            raise NoLooks("this look is written, or one too many")
        self._do(self._rows, written)

    def back(self):
        """What was done last is taken back."""
        if not self._before:
            raise NothingLeft("nothing is left to be taken back")
        self._rows, self._written = self._before.pop()

    def book(self):
        """All ticks so far."""
        return self._rows

    def looks(self):
        """All looks so far, rising."""
        return self._written

    def how_many(self):
        """How many comings do; of no ticks there is one."""
        if not self._rows:
            return 1
        return all_comings(self._hall, all_steps(self._hall, _columns(self._rows), self._written))

    def waiting(self, rank):
        """How many of the rank wait behind the last tick, at least and at most."""
        need_rank(self._hall, rank)
        if not self._rows:
            return 0, 0
        low, high = steps_of(self._hall, _columns(self._rows), self._written, rank)[-1]
        gone = taken_by(self._rows, rank)[-1]
        return low - gone, high - gone

    def _do(self, rows, written):
        """Go on with such ticks and looks, if some comings do."""
        if all_up(self._hall, _columns(rows), written) is None:
            raise CantBe("no comings would do")
        self._before.append((self._rows, self._written))
        self._rows = rows
        self._written = written

    def __len__(self):
        return len(self._rows)

    def __eq__(self, other):
        return (
            isinstance(other, Kept)
            and self._hall == other._hall
            and self._rows == other._rows
            and self._written == other._written
        )


def _columns(rows):
    """Of each desk whom it took at each tick, or None."""
    return list(zip(*rows))
