"""What a book and looks tell of one rank: how many had come by each tick, at least and at most.

Told is a pair of lists, with one thing a tick: as many as had come by then at least, and as many as at most, None
where nothing tells it.
"""

from itertools import accumulate

from hallback.turns import NOBODY


def taken_by(book, rank):
    """Of each tick how many of the rank had been taken by then, at it, too."""
    return list(accumulate([row.count(rank) for row in book]))


def told_of(hall, turns, rank, behind, gone):
    """What the turns tell of a rank of which so many had been taken ahead of them.

    Behind are the ranks that go behind this one: who takes such passes it over, as who is free and takes nobody does.
    """
    over = {one: True for one in (NOBODY, *behind)}
    own = [column for column, desk in zip(turns, hall[1]) if rank in desk]
    rows = list(zip(*own)) if own else [() for _ in turns[0]]
    least = []
    most = []
    for row in rows:
        passed = None
        for one in row:
            if one == rank:
                gone += 1
            elif one in over and passed is None:
                passed = gone
        least.append(gone)
        most.append(passed)
    return least, most


def told_with(told, looks, rank):
    """What is told of the rank by its turns and by the looks."""
    taken = told[0]
    least = list(taken)
    most = list(told[1])
    for tick, one, few, many in looks:
        if one == rank:
            least[tick] = max(least[tick], taken[tick] + few)
            most[tick] = taken[tick] + many if most[tick] is None else min(most[tick], taken[tick] + many)
    return least, most


def ranks_behind(hall, rank):
    """The ranks that go behind this one, as the hall has them."""
    return tuple(range(rank + 1, len(hall[0])))
