"""Halls, books and looks: what is one, and the refusal of what is none."""

from hallback.errors import NoBook, NoHall, NoLooks, NoRank, NoTick
from hallback.kinds import is_from_to, is_rising, is_tuple, is_whole
from hallback.turns import free_at_first, free_behind

RANKS_AT_MOST = 4
COME_AT_MOST = 5
STAY_AT_MOST = 10
DESKS_AT_MOST = 3
TICKS_AT_MOST = 40
LOOKS_AT_MOST = 6
LOOK_AT_MOST = 99


def is_hall(thing):
    """Whether this is a hall."""
    if not is_tuple(thing, 2, 2):
        return False
    ranks, desks = thing
    return _are_ranks(ranks) and _are_desks(desks, len(ranks))


def is_book(hall, thing):
    """Whether this is a book of the hall."""
    need_hall(hall)
    return _is_book_of(hall, thing)


def are_looks(hall, book, thing):
    """Whether this is looks of the hall's book."""
    need_hall(hall)
    need_book(hall, book)
    return _are_looks_of(hall, book, thing)


def need_hall(thing):
    """Refuse what is no hall."""
    if not is_hall(thing):
        raise NoHall("this is no hall")


def need_book(hall, thing):
    """Refuse what is no book of the hall."""
    if not _is_book_of(hall, thing):
        raise NoBook("this is no book of the hall")


def need_looks(hall, book, thing):
    """Refuse what is no looks of the hall's book."""
    if not _are_looks_of(hall, book, thing):
        raise NoLooks("these are no looks of the book")


def need_written(hall, book, looks):
    """Refuse what is no hall, no book of it or no looks of this, the first of them first."""
    need_hall(hall)
    need_book(hall, book)
    need_looks(hall, book, looks)


def need_rank(hall, thing):
    """Refuse what is no rank of the hall."""
    if not _is_rank(hall, thing):
        raise NoRank("this is no rank of the hall")


def need_tick(book, thing):
    """Refuse what is no tick of the book."""
    if not _is_tick(book, thing):
        raise NoTick("this is no tick of the book")


def _are_ranks(thing):
    return is_tuple(thing, 1, RANKS_AT_MOST) and all([_is_most_and_stay(pair) for pair in thing])


def _is_most_and_stay(thing):
    if not is_tuple(thing, 2, 2):
        return False
    most, stay = thing
    return is_from_to(most, 1, COME_AT_MOST) and is_from_to(stay, 1, STAY_AT_MOST)


def _are_desks(thing, ranks):
    return is_tuple(thing, 1, DESKS_AT_MOST) and all([_is_desk(desk, ranks) for desk in thing])


def _is_desk(thing, ranks):
    if not is_tuple(thing, 1, ranks):
        return False
    return all([is_from_to(rank, 0, ranks - 1) for rank in thing]) and is_rising(thing)


def _is_rank(hall, thing):
    return is_from_to(thing, 0, len(hall[0]) - 1)


def _is_tick(book, thing):
    return is_from_to(thing, 0, len(book) - 1)


def _is_book_of(hall, thing):
    if not is_tuple(thing, 1, TICKS_AT_MOST):
        return False
    free = free_at_first(hall)
    for tick, row in enumerate(thing):
        if not _is_row_of(hall, free, tick, row):
            return False
        free = free_behind(hall, free, tick, row)
    return True


def _is_row_of(hall, free, tick, thing):
    desks = hall[1]
    if not is_tuple(thing, len(desks), len(desks)):
        return False
    return all([_can_take(desk, at <= tick, one) for desk, at, one in zip(desks, free, thing)])


def _can_take(desk, is_free, thing):
    # A whole number first, since True would be found in a desk that takes rank 1.
    return thing is None or is_free and is_whole(thing) and thing in desk


def _are_looks_of(hall, book, thing):
    if not is_tuple(thing, 0, LOOKS_AT_MOST):
        return False
    return all([_is_look(hall, book, look) for look in thing]) and is_rising(thing)


def _is_look(hall, book, thing):
    if not is_tuple(thing, 4, 4):
        return False
    tick, rank, least, most = thing
    if not _is_tick(book, tick) or not _is_rank(hall, rank):
        return False
    return is_from_to(most, 0, LOOK_AT_MOST) and is_from_to(least, 0, most)
