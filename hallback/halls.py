"""Halls, books and looks: what is one, and the refusal of what is none."""

from hallback.errors import NoBook, NoHall, NoLooks, NoRank, NoTick
from hallback.kinds import are_rows, are_whole, is_from_to, is_rising, is_tuple, is_whole
from hallback.turns import all_stays, is_column

RANKS_AT_MOST = 4
COME_AT_MOST = 5
STAY_AT_MOST = 10
DESKS_AT_MOST = 3
TICKS_AT_MOST = 40
LOOKS_AT_MOST = 6
LOOK_AT_MOST = 99


def is_hall(thing):
    """Whether this is a hall."""
    if not is_tuple(thing, 2, 2):
        return False
    ranks, desks = thing
    return _are_ranks(ranks) and _are_desks(desks, len(ranks))


def is_book(hall, thing):
    """Whether this is a book of the hall."""
    need_hall(hall)
    return columns_of(hall, thing) is not None


def are_looks(hall, book, thing):
    """Whether this is looks of the hall's book."""
    need_hall(hall)
    need_book(hall, book)
    return _are_looks_of(hall, book, thing)


def columns_of(hall, thing):
    """Of each desk whom it took at each tick, or None; None in place of all where this is no book of the hall."""
    desks = hall[1]
    if not are_rows(thing, TICKS_AT_MOST, len(desks)):
        return None
    stays = all_stays(hall)
    columns = list(zip(*thing))
    for column, desk in zip(columns, desks):
        if not is_column(stays, desk, column):
            return None
    return columns


def need_hall(thing):
    """Refuse what is no hall."""
    if not is_hall(thing):
        raise NoHall("this is no hall")


def need_book(hall, thing):
    """Refuse what is no book of the hall; of a book tell its columns."""
    columns = columns_of(hall, thing)
    if columns is None:
        raise NoBook("this is no book of the hall")
    return columns


def need_looks(hall, book, thing):
    """Refuse what is no looks of the hall's book."""
    if not _are_looks_of(hall, book, thing):
        raise NoLooks("these are no looks of the book")


def need_written(hall, book, looks):
    """Refuse what is no hall, no book of it or no looks of this, the first of them first; tell the book's columns."""
    need_hall(hall)
    columns = need_book(hall, book)
    need_looks(hall, book, looks)
    return columns


def need_rank(hall, thing):
    """Refuse what is no rank of the hall."""
    if not is_from_to(thing, 0, len(hall[0]) - 1):
        raise NoRank("this is no rank of the hall")


def need_tick(book, thing):
    """Refuse what is no tick of the book."""
    if not is_from_to(thing, 0, len(book) - 1):
        raise NoTick("this is no tick of the book")


def _are_ranks(thing):
    if not is_tuple(thing, 1, RANKS_AT_MOST):
        return False
    for pair in thing:
        if not isinstance(pair, tuple) or len(pair) != 2 or not are_whole(pair):
            return False
        most, stay = pair
        if not 1 <= most <= COME_AT_MOST or not 1 <= stay <= STAY_AT_MOST:
            return False
    return True


def _are_desks(thing, ranks):
    if not is_tuple(thing, 1, DESKS_AT_MOST):
        return False
    for desk in thing:
        if not isinstance(desk, tuple) or not desk:
            return False
        low = 0
        for rank in desk:
            if type(rank) is not int and not is_whole(rank) or not low <= rank < ranks:
                return False
            low = rank + 1
    return True


def _are_looks_of(hall, book, thing):
    if not is_tuple(thing, 0, LOOKS_AT_MOST):
        return False
    for look in thing:
        if not is_tuple(look, 4, 4) or not are_whole(look) or not _is_look(hall, book, look):
            return False
    return is_rising(thing)


def _is_look(hall, book, look):
    tick, rank, least, most = look
    return 0 <= tick < len(book) and 0 <= rank < len(hall[0]) and 0 <= least <= most <= LOOK_AT_MOST
