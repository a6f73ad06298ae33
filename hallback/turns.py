"""Turns: what each desk does at each tick, as a book tells it."""

from hallback.kinds import is_whole

# A desk that is free and takes nobody passes over all ranks of its own, as if it took one behind them all.
NOBODY = 4
# A desk that isn't free passes over no rank, as if it took one ahead of them all.
BUSY = -1


def turns_of(stays, desk, column):
    """What the desk does at each tick: the rank that it takes, NOBODY or BUSY; None where the column can't be."""
    turns = []
    free = 0
    for tick, one in enumerate(column):
        if one is None:
            turns.append(BUSY if tick < free else NOBODY)
        elif tick < free or one not in desk or type(one) is not int and not is_whole(one):
            return None
        else:
            turns.append(one)
            free = tick + stays[one]
    return turns


def free_from(stays, column):
    """The tick from which the desk is free, behind all of its column."""
    free = 0
    for tick, one in enumerate(column):
        if one is not None:
            free = tick + stays[one]
    return free
