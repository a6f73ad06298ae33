"""Turns: what each desk does at each tick, as its column of a book tells it."""

from hallback.kinds import is_whole

# A desk that is free and takes nobody passes over all ranks of its own, as if it took one behind them all.
NOBODY = 4
# A desk that isn't free passes over no rank, as if it took one ahead of them all.
BUSY = -1


def is_column(stays, desk, column):
    """Whether the desk can have taken so: of its own alone, and when it was free."""
    free = 0
    for tick, one in enumerate(column):
        if one is not None:
            # Nearly all are plain ints, which is asked sooner.
            if tick < free or one not in desk or type(one) is not int and not is_whole(one):
                return False
            free = tick + stays[one]
    return True


def turns_of(stays, column):
    """Of each tick the rank that the desk takes, NOBODY or BUSY."""
    turns = []
    free = 0
    for tick, one in enumerate(column):
        if one is not None:
            turns.append(one)
            free = tick + stays[one]
        else:
            turns.append(BUSY if tick < free else NOBODY)
    return turns


def all_turns(hall, columns):
    """The turns of each desk."""
    stays = all_stays(hall)
    return [turns_of(stays, column) for column in columns]


def free_from(stays, column):
    """The tick from which the desk is free, behind all of its column."""
    for tick in reversed(range(len(column))):
        if column[tick] is not None:
            return tick + stays[column[tick]]
    return 0


def all_stays(hall):
    """How long those of each rank stay."""
    return [stay for _, stay in hall[0]]
