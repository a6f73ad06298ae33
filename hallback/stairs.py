"""Stairs: of each rank how many had come by each tick, and what bars a book."""

from hallback.halls import need_book, need_hall, need_rank, need_written
from hallback.kinds import is_tuple, is_whole
from hallback.told import told_least, told_most


def stairs(hall, book, looks, rank):
    """Of each tick how many of the rank had come by then, at least and at most, None where no comings do."""
    need_written(hall, book, looks)
    need_rank(hall, rank)
    every = all_stairs(hall, book, looks)
    return None if every is None else every[rank]


def can_be(hall, book, looks):
    """Whether some comings do."""
    need_written(hall, book, looks)
    return all_stairs(hall, book, looks) is not None


def first_bar(hall, book):
    """The first tick such that the book up to it, with it, has no comings, None where there is none."""
    need_hall(hall)
    need_book(hall, book)
    for tick in range(len(book)):
        if all_stairs(hall, book[:tick + 1], ()) is None:
            return tick
    return None


def bar(hall, book, looks):
    """The first bar (rank, one, other), None where there is none."""
    need_written(hall, book, looks)
    found = _bars(hall, book, looks)
    return found[0] if found else None


def is_bar(hall, book, looks, thing):
    """Whether this is a bar."""
    need_written(hall, book, looks)
    if not is_tuple(thing, 3, 3) or not all([is_whole(one) for one in thing]):
        return False
    return thing in _bars(hall, book, looks)


def all_stairs(hall, book, looks):
    """The stairs of each rank, None where no comings do."""
    every = [_stairs_of(hall, book, looks, rank) for rank in range(len(hall[0]))]
    if any([low > high for steps in every for low, high in steps]):
        return None
    return every


def _stairs_of(hall, book, looks, rank):
    """Pairs (low, high) of each tick; where the rank has no comings some low is more than its high."""
    most = hall[0][rank][0]
    lows = _lows(told_least(book, looks, rank), most)
    highs = _highs(told_most(hall, book, looks, rank), most, len(book))
    return list(zip(lows, highs))


def _lows(told, most):
    lows = []
    low = 0
    for many in told:
        low = max(low, many)
        lows.append(low)
    # Who must have come by a tick, and can't all have come at it, must have come ahead of it.
    for tick in reversed(range(len(told) - 1)):
        lows[tick] = max(lows[tick], lows[tick + 1] - most)
    return lows


def _highs(told, most, ticks):
    highs = []
    high = told[-1]
    for tick in range(ticks):
        high = min(high + most, told.get(tick, high + most))
        highs.append(high)
    # Who hadn't come by a tick hadn't come ahead of it, either.
    for tick in reversed(range(ticks - 1)):
        highs[tick] = min(highs[tick], highs[tick + 1])
    return highs


def _bars(hall, book, looks):
    return [found for rank in range(len(hall[0])) for found in _bars_of(hall, book, looks, rank)]


def _bars_of(hall, book, looks, rank):
    most = hall[0][rank][0]
    least_by = told_least(book, looks, rank)
    most_by = told_most(hall, book, looks, rank)
    return [
        (rank, one, other)
        for one in sorted(most_by)
        for other in range(len(book))
        if least_by[other] > most_by[one] + most * max(0, other - one)
    ]
