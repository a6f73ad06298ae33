"""Rows: how many comings do, and the rows of a rank by their numbers."""

from hallback.errors import NoComings, NoNumber
from hallback.halls import need_rank, need_written
from hallback.kinds import is_from_to, is_tuple
from hallback.steps import all_steps, steps_of
from hallback.ways import all_comings, all_ways, ways_on


def how_many(hall, book, looks):
    """How many comings do."""
    columns = need_written(hall, book, looks)
    every = all_steps(hall, columns, looks)
    return 0 if every is None else all_comings(hall, every)


def how_many_of(hall, book, looks, rank):
    """How many rows of comings of the rank are had in comings that do."""
    columns = need_written(hall, book, looks)
    need_rank(hall, rank)
    steps = steps_of(hall, columns, looks, rank)
    return 0 if steps is None else all_ways(steps, hall[0][rank][0])


def row_at(hall, book, looks, rank, number):
    """The row of the number."""
    columns = need_written(hall, book, looks)
    need_rank(hall, rank)
    steps = steps_of(hall, columns, looks, rank)
    ways = [[]] if steps is None else ways_on(steps, hall[0][rank][0])
    if not is_from_to(number, 0, sum(ways[0]) - 1):
        raise NoNumber("this is no number of a row that is had")
    row = []
    had_come = 0
    left = number
    for (low, _), behind in zip(steps, ways):
        come, left = _come_and_left(behind, had_come - low, left)
        had_come += come
        row.append(come)
    return tuple(row)


def number_of(hall, book, looks, rank, row):
    """The number of the row."""
    columns = need_written(hall, book, looks)
    need_rank(hall, rank)
    steps = steps_of(hall, columns, looks, rank)
    most = hall[0][rank][0]
    if steps is None or not _is_had(steps, most, row):
        raise NoComings("this is no row of the rank that is had")
    number = 0
    had_come = 0
    for (low, _), behind, come in zip(steps, ways_on(steps, most), row):
        number += sum(behind[max(0, had_come - low):had_come - low + come])
        had_come += come
    return number


def _come_and_left(behind, place, number):
    """How many come at a tick in the row of the number, and the number among all that begin so.

    Place is where among the ways behind the tick it stands if nobody comes; ahead of the first there are none.
    """
    come = max(0, -place)
    while number >= behind[place + come]:
        number -= behind[place + come]
        come += 1
    return come, number


def _is_had(steps, most, thing):
    if not is_tuple(thing, len(steps), len(steps)):
        return False
    if not all([is_from_to(come, 0, most) for come in thing]):
        return False
    had_come = 0
    for come, (low, high) in zip(thing, steps):
        had_come += come
        if not low <= had_come <= high:
            return False
    return True
