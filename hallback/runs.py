"""Runs: the book that comings have, and whether comings are what was written."""

from hallback.errors import NoComings
from hallback.halls import TICKS_AT_MOST, need_book, need_hall, need_looks
from hallback.kinds import are_rows, is_whole
from hallback.turns import all_stays


def run(hall, comings):
    """The book of the comings."""
    need_hall(hall)
    if not _are_comings(hall, comings):
        raise NoComings("these are no comings of the hall")
    return _book_of(hall, comings)


def is_story(hall, book, looks, thing):
    """Whether this is comings that do for the book with the looks."""
    need_hall(hall)
    is_theirs = _are_comings(hall, thing) and _is_book_of(hall, thing, book)
    # What is the book of comings is a book: only of another one must it be asked.
    if not is_theirs:
        need_book(hall, book)
    need_looks(hall, book, looks)
    return is_theirs and _are_so(book, looks, thing)


def _are_comings(hall, thing):
    ranks = hall[0]
    if not are_rows(thing, TICKS_AT_MOST, len(ranks)):
        return False
    for column, (most, _) in zip(zip(*thing), ranks):
        for many in column:
            # Nearly all are plain ints, which is asked sooner.
            if type(many) is not int and not is_whole(many) or not 0 <= many <= most:
                return False
    return True


def _book_of(hall, comings):
    waiting = [0 for _ in hall[0]]
    free = [0 for _ in hall[1]]
    book = []
    for tick, come in enumerate(comings):
        waiting = [old + new for old, new in zip(waiting, come)]
        book.append(_row_taken(hall, free, tick, waiting))
    return tuple(book)


def _row_taken(hall, free, tick, waiting):
    """The row that the desks take; who was taken waits no longer, and the desk is free when they have gone."""
    ranks, desks = hall
    row = []
    for at, desk in enumerate(desks):
        rank = _first_waiting(desk, waiting) if free[at] <= tick else None
        if rank is not None:
            waiting[rank] -= 1
            free[at] = tick + ranks[rank][1]
        row.append(rank)
    return tuple(row)


def _first_waiting(desk, waiting):
    """The first rank of the desk's own of which anybody waits, None where nobody does."""
    for rank in desk:
        if waiting[rank]:
            return rank
    return None


def _is_book_of(hall, comings, thing):
    """Whether anything is the book of the comings: run as in _book_of, up to the first turn that is another one."""
    ranks, desks = hall
    if not are_rows(thing, len(comings), len(desks)) or len(thing) < len(comings):
        return False
    stays = all_stays(hall)
    waiting = [0 for _ in ranks]
    free = [0 for _ in desks]
    tick = 0
    # This is asked more often than all else, and places counted by hand are soonest counted.
    for come, row in zip(comings, thing):
        rank = 0
        for many in come:
            if many:
                waiting[rank] += many
            rank += 1
        at = 0
        for one in row:
            taken = None
            if free[at] <= tick:
                for own in desks[at]:
                    if waiting[own]:
                        taken = own
                        waiting[own] -= 1
                        free[at] = tick + stays[own]
                        break
            if one != taken or type(one) is not int and one is not None and not is_whole(one):
                return False
            at += 1
        tick += 1
    return True


def _are_so(book, looks, comings):
    return all([least <= _left(book, comings, tick, rank) <= most for tick, rank, least, most in looks])


def _left(book, comings, tick, rank):
    """How many of the rank wait behind the takings of the tick."""
    had_come = sum([row[rank] for row in comings[:tick + 1]])
    return had_come - sum([row.count(rank) for row in book[:tick + 1]])
