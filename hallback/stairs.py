"""Stairs: of each rank how many had come by each tick, and what bars a book."""

from hallback.halls import need_book, need_hall, need_rank, need_written
from hallback.kinds import are_whole, is_tuple
from hallback.steps import all_up, is_barred, rank_up, steps_of
from hallback.told import ranks_behind, told_of, told_with
from hallback.turns import all_stays, all_turns, free_from


def stairs(hall, book, looks, rank):
    """Of each tick how many of the rank had come by then, at least and at most, None where no comings do."""
    columns = need_written(hall, book, looks)
    need_rank(hall, rank)
    return steps_of(hall, columns, looks, rank)


def can_be(hall, book, looks):
    """Whether some comings do."""
    columns = need_written(hall, book, looks)
    return all_up(hall, columns, looks) is not None


def first_bar(hall, book):
    """The first tick such that the book up to it, with it, has no comings, None where there is none."""
    need_hall(hall)
    turns = all_turns(hall, need_book(hall, book))
    every = [rank_up(hall, turns, (), rank) for rank in range(len(hall[0]))]
    # What is told up to a tick is all that the book up to it tells, and steps end where they are barred.
    return min([len(steps) - 1 for steps in every if is_barred(steps)], default=None)


def bar(hall, book, looks):
    """The first bar (rank, one, other), None where there is none."""
    turns = all_turns(hall, need_written(hall, book, looks))
    for rank in range(len(hall[0])):
        if is_barred(rank_up(hall, turns, looks, rank)):
            return _first_bar_of(hall, turns, looks, rank)
    return None


def is_bar(hall, book, looks, thing):
    """Whether this is a bar."""
    columns = need_written(hall, book, looks)
    if not is_tuple(thing, 3, 3) or not are_whole(thing):
        return False
    rank, one, other = thing
    if not (0 <= rank < len(hall[0]) and -1 <= one < len(book) and 0 <= other < len(book)):
        return False
    more = _least_by(columns, looks, rank, other) - hall[0][rank][0] * max(0, other - one)
    # At most is never less than 0, nor than were taken ahead of the tick, so often enough it needn't be found.
    if more <= 0 or more <= _taken_ahead(columns, rank, max(0, one)):
        return False
    most = _most_by(hall, columns, looks, rank, one)
    return most is not None and more > most


def _first_bar_of(hall, turns, looks, rank):
    """The first bar of a rank that has one."""
    can_come = hall[0][rank][0]
    least, most = told_with(told_of(hall, turns, rank, ranks_behind(hall, rank), 0), looks, rank)
    told = [(-1, 0)] + [(tick, many) for tick, many in enumerate(most) if many is not None]
    for one, at_most in told:
        for other, at_least in enumerate(least):
            if at_least > at_most + can_come * max(0, other - one):
                return rank, one, other
    return None


def _taken_ahead(columns, rank, tick):
    """How many of the rank had been taken ahead of the tick."""
    return sum([column[:tick].count(rank) for column in columns])


def _least_by(columns, looks, rank, tick):
    """As many of the rank as are told by the tick at least."""
    taken = _taken_ahead(columns, rank, tick + 1)
    told = taken
    for at, one, least, _ in looks:
        if at == tick and one == rank:
            told = max(told, taken + least)
    return told


def _most_by(hall, columns, looks, rank, tick):
    """As many of the rank as are told by the tick at most, None where nothing is told of it."""
    if tick < 0:
        return 0
    taken = _taken_ahead(columns, rank, tick + 1)
    told = _passed_by(hall, columns, rank, tick)
    for at, one, _, most in looks:
        if at == tick and one == rank:
            told = taken + most if told is None else min(told, taken + most)
    return told


def _passed_by(hall, columns, rank, tick):
    """How many of the rank had been taken ahead of the first turn that passed it over, None where none did."""
    taken = _taken_ahead(columns, rank, tick)
    for column, desk in zip(columns, hall[1]):
        one = column[tick]
        if one is None:
            passes = rank in desk and free_from(all_stays(hall), column[:tick]) <= tick
        else:
            passes = rank in desk and one > rank
        if passes:
            return taken
        if one == rank:
            taken += 1
    return None
