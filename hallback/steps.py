"""Steps: of each tick how many of a rank had come by then, at least and at most, as a pair."""

from hallback.told import ranks_behind, told_of, told_with
from hallback.turns import all_turns


def steps_up(told, most, low, high):
    """The steps by what is told up to each tick alone, where ahead of them so many had come.

    They end at the first tick by which more had come at least than at most: nobody can go up there.
    """
    steps = []
    for least, limit in zip(told[0], told[1]):
        high += most
        if limit is not None and limit < high:
            high = limit
        if least > low:
            low = least
        steps.append((low, high))
        if low > high:
            break
    return steps


def is_barred(steps):
    """Whether the steps end where nobody can go up."""
    low, high = steps[-1]
    return low > high


def steps_down(steps, most):
    """The steps by what is told behind each tick, too."""
    low, high = steps[-1]
    found = []
    for low_up, high_up in reversed(steps):
        # Who must have come by a tick, and can't all have come at it, must have come ahead of it;
        # who hadn't come by a tick hadn't come ahead of it, either.
        low = low_up if low_up > low - most else low - most
        high = high_up if high_up < high else high
        found.append((low, high))
    return found[::-1]


def rank_up(hall, turns, looks, rank):
    """The steps up of the rank."""
    told = told_of(hall, turns, rank, ranks_behind(hall, rank), 0)
    return steps_up(told_with(told, looks, rank) if looks else told, hall[0][rank][0], 0, 0)


def all_up(hall, columns, looks):
    """The steps up of each rank, None where some are barred."""
    turns = all_turns(hall, columns)
    found = []
    for rank in range(len(hall[0])):
        steps = rank_up(hall, turns, looks, rank)
        if is_barred(steps):
            return None
        found.append(steps)
    return found


def all_steps(hall, columns, looks):
    """The steps of each rank, None where no comings do."""
    every = all_up(hall, columns, looks)
    return None if every is None else [steps_down(steps, most) for steps, (most, _) in zip(every, hall[0])]


def steps_of(hall, columns, looks, rank):
    """The steps of the rank, None where no comings do."""
    every = all_up(hall, columns, looks)
    return None if every is None else steps_down(every[rank], hall[0][rank][0])
