"""Rows: how many comings do, and the rows of a rank by their numbers."""

from hallback.errors import NoComings, NoNumber
from hallback.halls import need_rank, need_written
from hallback.kinds import is_from_to, is_tuple
from hallback.stairs import all_stairs
from hallback.ways import all_ways, ways_on


def how_many(hall, book, looks):
    """How many comings do."""
    need_written(hall, book, looks)
    every = all_stairs(hall, book, looks)
    if every is None:
        return 0
    many = 1
    for steps, (most, _) in zip(every, hall[0]):
        many = many * all_ways(steps, most)
    return many


def how_many_of(hall, book, looks, rank):
    """How many rows of comings of the rank are had in comings that do."""
    need_written(hall, book, looks)
    need_rank(hall, rank)
    every = all_stairs(hall, book, looks)
    return 0 if every is None else all_ways(every[rank], hall[0][rank][0])


def row_at(hall, book, looks, rank, number):
    """The row of the number."""
    need_written(hall, book, looks)
    need_rank(hall, rank)
    every = all_stairs(hall, book, looks)
    most = hall[0][rank][0]
    if every is None or not is_from_to(number, 0, all_ways(every[rank], most) - 1):
        raise NoNumber("this is no number of a row that is had")
    row = []
    had_come = 0
    left = number
    for ways in ways_on(every[rank], most):
        come, left = _come_and_left(ways, had_come, left)
        had_come += come
        row.append(come)
    return tuple(row)


def number_of(hall, book, looks, rank, row):
    """The number of the row."""
    need_written(hall, book, looks)
    need_rank(hall, rank)
    every = all_stairs(hall, book, looks)
    most = hall[0][rank][0]
    if every is None or not _is_had(every[rank], most, row):
        raise NoComings("this is no row of the rank that is had")
    number = 0
    had_come = 0
    for ways, come in zip(ways_on(every[rank], most), row):
        number += sum([ways.get(had_come + fewer, 0) for fewer in range(come)])
        had_come += come
    return number


def _come_and_left(ways, had_come, number):
    """How many come at a tick in the row of the number, and the number among all that begin so."""
    come = 0
    while number >= ways.get(had_come + come, 0):
        number -= ways.get(had_come + come, 0)
        come += 1
    return come, number


def _is_had(steps, most, thing):
    if not is_tuple(thing, len(steps), len(steps)):
        return False
    if not all([is_from_to(come, 0, most) for come in thing]):
        return False
    had_come = 0
    for come, (low, high) in zip(thing, steps):
        had_come += come
        if not low <= had_come <= high:
            return False
    return True
