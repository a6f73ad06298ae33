"""Halls, books and looks: what is one, and the refusal of what is none."""

from hallback.errors import NoBook, NoHall, NoLooks, NoRank, NoTick
from hallback.kinds import are_rows, are_whole, is_from_to, is_rising, is_tuple
from hallback.turns import turns_of

RANKS_AT_MOST = 4
COME_AT_MOST = 5
STAY_AT_MOST = 10
DESKS_AT_MOST = 3
TICKS_AT_MOST = 40
LOOKS_AT_MOST = 6
LOOK_AT_MOST = 99


def is_hall(thing):
    """Whether this is a hall."""
    if not is_tuple(thing, 2, 2):
        return False
    ranks, desks = thing
    return _are_ranks(ranks) and _are_desks(desks, len(ranks))


def is_book(hall, thing):
    """Whether this is a book of the hall."""
    need_hall(hall)
    return all_turns(hall, thing) is not None


def are_looks(hall, book, thing):
    """Whether this is looks of the hall's book."""
    need_hall(hall)
    need_book(hall, book)
    return _are_looks_of(hall, book, thing)


def all_turns(hall, thing):
    """Of each desk its turns, as the book tells them; None where this is no book of the hall."""
    ranks, desks = hall
    if not are_rows(thing, TICKS_AT_MOST, len(desks)):
        return None
    stays = [stay for _, stay in ranks]
    found = []
    for column, desk in zip(zip(*thing), desks):
        turns = turns_of(stays, desk, column)
        if turns is None:
            return None
        found.append(turns)
    return found


def need_hall(thing):
    """Refuse what is no hall."""
    if not is_hall(thing):
        raise NoHall("this is no hall")


def need_book(hall, thing):
    """Refuse what is no book of the hall; of a book tell all turns."""
    turns = all_turns(hall, thing)
    if turns is None:
        raise NoBook("this is no book of the hall")
    return turns


def need_looks(hall, book, thing):
    """Refuse what is no looks of the hall's book."""
    if not _are_looks_of(hall, book, thing):
        raise NoLooks("these are no looks of the book")


def need_written(hall, book, looks):
    """Refuse what is no hall, no book of it or no looks of this, the first of them first; tell all turns."""
    need_hall(hall)
    turns = need_book(hall, book)
    need_looks(hall, book, looks)
    return turns


def need_rank(hall, thing):
    """Refuse what is no rank of the hall."""
    if not is_from_to(thing, 0, len(hall[0]) - 1):
        raise NoRank("this is no rank of the hall")


def need_tick(book, thing):
    """Refuse what is no tick of the book."""
    if not is_from_to(thing, 0, len(book) - 1):
        raise NoTick("this is no tick of the book")


def _are_ranks(thing):
    if not are_rows(thing, RANKS_AT_MOST, 2):
        return False
    for pair in thing:
        most, stay = pair
        if not are_whole(pair) or not 1 <= most <= COME_AT_MOST or not 1 <= stay <= STAY_AT_MOST:
            return False
    return True


def _are_desks(thing, ranks):
    if not is_tuple(thing, 1, DESKS_AT_MOST):
        return False
    for desk in thing:
        if not is_tuple(desk, 1, ranks) or not are_whole(desk):
            return False
        last = -1
        for rank in desk:
            if not last < rank < ranks:
                return False
            last = rank
    return True


def _are_looks_of(hall, book, thing):
    if not is_tuple(thing, 0, LOOKS_AT_MOST):
        return False
    for look in thing:
        if not is_tuple(look, 4, 4) or not are_whole(look) or not _is_look(hall, book, look):
            return False
    return is_rising(thing)


def _is_look(hall, book, look):
    tick, rank, least, most = look
    return 0 <= tick < len(book) and 0 <= rank < len(hall[0]) and 0 <= least <= most <= LOOK_AT_MOST
