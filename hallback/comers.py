"""Comers: when each one came and was taken, how long they waited, and because of whom."""

from hallback.errors import NoComer
from hallback.halls import need_book, need_hall, need_rank, need_tick, need_written
from hallback.kinds import is_whole
from hallback.steps import steps_of
from hallback.told import taken_by


def came(hall, book, looks, rank, comer):
    """The earliest and the latest tick at which the comer comes, None where no comings do."""
    columns = need_written(hall, book, looks)
    need_rank(hall, rank)
    need_comer(comer)
    steps = steps_of(hall, columns, looks, rank)
    if steps is None:
        return None
    return first_tick([high for _, high in steps], comer), first_tick([low for low, _ in steps], comer)


def taken(hall, book, rank, comer):
    """The tick at which the comer was taken, None where they weren't."""
    need_hall(hall)
    need_book(hall, book)
    need_rank(hall, rank)
    need_comer(comer)
    return first_tick(taken_by(book, rank), comer)


def waits(hall, book, looks, rank):
    """The least and the most ticks that all of the rank who were taken waited, None where no comings do."""
    columns = need_written(hall, book, looks)
    need_rank(hall, rank)
    steps = steps_of(hall, columns, looks, rank)
    if steps is None:
        return None
    by = taken_by(book, rank)
    # Who came behind the last one who was taken waits on, and doesn't count.
    least = sum([min(low, by[-1]) - gone for (low, _), gone in zip(steps, by)])
    return least, sum([min(high, by[-1]) - gone for (_, high), gone in zip(steps, by)])


def waiting(hall, book, looks, rank, tick):
    """How many of the rank wait behind the tick's takings, at least and at most, None where no comings do."""
    columns = need_written(hall, book, looks)
    need_rank(hall, rank)
    need_tick(book, tick)
    steps = steps_of(hall, columns, looks, rank)
    return None if steps is None else _left(steps, book, rank)[tick]


def because(hall, book, looks, rank, other):
    """How many of the rank wait behind each taking of the other, added up, None where no comings do."""
    columns = need_written(hall, book, looks)
    need_rank(hall, rank)
    need_rank(hall, other)
    steps = steps_of(hall, columns, looks, rank)
    if steps is None:
        return None
    left = _left(steps, book, rank)
    least = sum([low * row.count(other) for (low, _), row in zip(left, book)])
    return least, sum([high * row.count(other) for (_, high), row in zip(left, book)])


def need_comer(thing):
    """Refuse what is no comer."""
    if not is_whole(thing) or thing < 1:
        raise NoComer("this is no comer")


def first_tick(by, comer):
    """The first tick by which there are as many as the comer's number, None where there is none."""
    for tick, many in enumerate(by):
        if many >= comer:
            return tick
    return None


def _left(steps, book, rank):
    """Of each tick how many of the rank wait behind its takings, at least and at most."""
    return [(low - gone, high - gone) for (low, high), gone in zip(steps, taken_by(book, rank))]
