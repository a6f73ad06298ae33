"""Stairs: of each rank how many had come by each tick, and what bars a book."""

from hallback.halls import need_book, need_hall, need_rank, need_written
from hallback.kinds import are_whole, is_tuple
from hallback.steps import all_up, is_barred, rank_up, steps_of
from hallback.told import ranks_behind, told_of, told_with


def stairs(hall, book, looks, rank):
    """Of each tick how many of the rank had come by then, at least and at most, None where no comings do."""
    turns = need_written(hall, book, looks)
    need_rank(hall, rank)
    return steps_of(hall, turns, looks, rank)


def can_be(hall, book, looks):
    """Whether some comings do."""
    turns = need_written(hall, book, looks)
    return all_up(hall, turns, looks) is not None


def first_bar(hall, book):
    """The first tick such that the book up to it, with it, has no comings, None where there is none."""
    need_hall(hall)
    turns = need_book(hall, book)
    every = [rank_up(hall, turns, (), rank) for rank in range(len(hall[0]))]
    # What is told up to a tick is all that the book up to it tells, and steps end where they are barred.
    return min([len(steps) - 1 for steps in every if is_barred(steps)], default=None)


def bar(hall, book, looks):
    """The first bar (rank, one, other), None where there is none."""
    turns = need_written(hall, book, looks)
    for rank in range(len(hall[0])):
        if is_barred(rank_up(hall, turns, looks, rank)):
            return _first_bar_of(hall, turns, looks, rank)
    return None


def is_bar(hall, book, looks, thing):
    """Whether this is a bar."""
    turns = need_written(hall, book, looks)
    if not is_tuple(thing, 3, 3) or not are_whole(thing):
        return False
    rank, one, other = thing
    if not (0 <= rank < len(hall[0]) and -1 <= one < len(book) and 0 <= other < len(book)):
        return False
    come_between = hall[0][rank][0] * max(0, other - one)
    more = _least_by(turns, looks, rank, other) - come_between
    # At most is never less than 0, so often enough it needn't be found.
    if more <= 0:
        return False
    most = _most_by(hall, turns, looks, rank, one)
    return most is not None and more > most


def _first_bar_of(hall, turns, looks, rank):
    """The first bar of a rank that has one."""
    can_come = hall[0][rank][0]
    least, most = told_with(told_of(hall, turns, rank, ranks_behind(hall, rank), 0), looks, rank)
    told = [(-1, 0)] + [(tick, many) for tick, many in enumerate(most) if many is not None]
    for one, at_most in told:
        for other, at_least in enumerate(least):
            if at_least > at_most + can_come * max(0, other - one):
                return rank, one, other
    return None


def _least_by(turns, looks, rank, tick):
    """As many of the rank as are told by the tick at least."""
    taken = sum([column[:tick + 1].count(rank) for column in turns])
    return taken + max([least for at, one, least, _ in looks if at == tick and one == rank], default=0)


def _most_by(hall, turns, looks, rank, tick):
    """As many of the rank as are told by the tick at most, None where nothing is told of it."""
    if tick < 0:
        return 0
    gone = sum([column[:tick].count(rank) for column in turns])
    most = []
    for column, desk in zip(turns, hall[1]):
        if column[tick] == rank:
            gone += 1
        elif column[tick] > rank and rank in desk:
            most.append(gone)
    most += [gone + many for at, one, _, many in looks if at == tick and one == rank]
    return min(most, default=None)
