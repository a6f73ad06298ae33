"""Runs: the book that comings have, and whether comings are what was written."""

from hallback.errors import NoComings
from hallback.halls import TICKS_AT_MOST, need_hall, need_written
from hallback.kinds import is_from_to, is_tuple
from hallback.turns import free_at_first, free_behind, row_taken


def run(hall, comings):
    """The book of the comings."""
    need_hall(hall)
    if not _are_comings(hall, comings):
        raise NoComings("these are no comings of the hall")
    return _book_of(hall, comings)


def is_story(hall, book, looks, thing):
    """Whether this is comings that do for the book with the looks."""
    need_written(hall, book, looks)
    if not _are_comings(hall, thing) or len(thing) != len(book):
        return False
    return _book_of(hall, thing) == book and _are_so(book, looks, thing)


def _are_comings(hall, thing):
    return is_tuple(thing, 1, TICKS_AT_MOST) and all([_is_row(hall, row) for row in thing])


def _is_row(hall, thing):
    ranks = hall[0]
    if not is_tuple(thing, len(ranks), len(ranks)):
        return False
    return all([is_from_to(many, 0, most) for many, (most, _) in zip(thing, ranks)])


def _book_of(hall, comings):
    waiting = [0 for _ in hall[0]]
    free = free_at_first(hall)
    book = []
    for tick, come in enumerate(comings):
        waiting = [old + new for old, new in zip(waiting, come)]
        row = row_taken(hall, free, tick, waiting)
        waiting = [many - row.count(rank) for rank, many in enumerate(waiting)]
        free = free_behind(hall, free, tick, row)
        book.append(row)
    return tuple(book)


def _are_so(book, looks, comings):
    return all([least <= _left(book, comings, tick, rank) <= most for tick, rank, least, most in looks])


def _left(book, comings, tick, rank):
    """How many of the rank wait behind the takings of the tick."""
    had_come = sum([row[rank] for row in comings[:tick + 1]])
    return had_come - sum([row.count(rank) for row in book[:tick + 1]])
