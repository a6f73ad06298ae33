"""Mends: what may have been written falsely, and the stays that a book can have."""

from hallback.halls import STAY_AT_MOST, columns_of, need_book, need_hall, need_rank
from hallback.steps import all_up, is_barred, rank_up, steps_up
from hallback.told import ranks_behind, told_of
from hallback.turns import BUSY, all_stays, all_turns, is_column, turns_of


def mends(hall, book):
    """All triples (tick, desk, one), in order, with which, in the place of what is written, some comings do."""
    need_hall(hall)
    turns = all_turns(hall, need_book(hall, book))
    every = [rank_up(hall, turns, (), rank) for rank in range(len(hall[0]))]
    found = []
    # Steps end at the first tick that bars them: nothing that is written behind it mends that.
    for tick in range(min([len(steps) for steps in every])):
        for at, desk in enumerate(hall[1]):
            for one in (None, *desk):
                if one != book[tick][at] and _does(hall, turns, every, (tick, at, one)):
                    found.append((tick, at, one))
    return found


def stays(hall, book, rank):
    """All stays of the rank, rising, with which some comings do."""
    need_hall(hall)
    need_book(hall, book)
    need_rank(hall, rank)
    return [stay for stay in range(1, STAY_AT_MOST + 1) if _can_stay(hall, book, rank, stay)]


def _does(hall, turns, every, mend):
    """Whether some comings do with the mend, where turns and the steps up of each rank are those without it."""
    tick, at, one = mend
    if turns[at][tick] == BUSY:
        return False
    from_then = [column[tick:] for column in turns]
    mended = _with_first(hall, hall[1][at], from_then[at], one)
    if mended is None:
        return False
    from_then[at] = mended
    for rank, steps in enumerate(every):
        # Other ranks than the desk's own are told the same as ahead of the mend.
        if is_barred(_up_from(hall, from_then, steps, tick, rank) if rank in hall[1][at] else steps):
            return False
    return True


def _with_first(hall, desk, turns, one):
    """The turns of the desk with another one in the place of the first, None where they can't be."""
    column = [turn if turn in desk else None for turn in turns]
    column[0] = one
    if not is_column(all_stays(hall), desk, column):
        return None
    return turns_of(all_stays(hall), column)


def _up_from(hall, turns, steps, tick, rank):
    """The steps up of the rank from the tick on, by turns from then on, where ahead of it they are as they are."""
    gone, high = steps[tick - 1] if tick > 0 else (0, 0)
    return steps_up(told_of(hall, turns, rank, ranks_behind(hall, rank), gone), hall[0][rank][0], gone, high)


def _can_stay(hall, book, rank, stay):
    ranks, desks = hall
    others = (*ranks[:rank], (ranks[rank][0], stay), *ranks[rank + 1:])
    columns = columns_of((others, desks), book)
    return columns is not None and all_up((others, desks), columns, ()) is not None
