"""First: when each comer had been taken, had their rank been put first."""

from hallback.comers import first_tick, need_comer
from hallback.errors import NotAlike
from hallback.halls import need_rank, need_written
from hallback.steps import steps_of
from hallback.turns import BUSY, all_stays, all_turns


def first_taken(hall, book, looks, rank, comer):
    """The earliest and the latest tick at which the comer had been taken, None where no comings do."""
    columns = need_written(hall, book, looks)
    need_rank(hall, rank)
    need_comer(comer)
    _need_alike(hall)
    steps = steps_of(hall, columns, looks, rank)
    if steps is None:
        return None
    # By every order just as many are taken at each tick, so just as many desks are free as were.
    turns = all_turns(hall, columns)
    free = [len(row) - row.count(BUSY) for row in zip(*turns)]
    earliest = first_tick(_taken_first([high for _, high in steps], free), comer)
    return earliest, first_tick(_taken_first([low for low, _ in steps], free), comer)


def _need_alike(hall):
    """Refuse a hall in which some desk doesn't take all ranks, or the stays aren't alike."""
    ranks, desks = hall
    stays = all_stays(hall)
    if min(stays) < max(stays) or min([len(desk) for desk in desks]) < len(ranks):
        raise NotAlike("the desks or the stays of the hall are not all alike")


def _taken_first(had_come, free):
    """Of each tick how many had been taken by then, where of nobody else any goes ahead."""
    taken = 0
    found = []
    for many, desks in zip(had_come, free):
        taken = min(many, taken + desks)
        found.append(taken)
    return found
