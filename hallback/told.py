"""What a book and looks tell of one rank: how many were taken, and had come at least and at most."""

from itertools import accumulate

from hallback.turns import free_at_first, free_behind


def taken_by(book, rank):
    """Of each tick how many of the rank had been taken by then, at it, too."""
    return list(accumulate([row.count(rank) for row in book]))


def told_least(book, looks, rank):
    """Of each tick as many of the rank as are told to have come by then at least."""
    taken = taken_by(book, rank)
    told = list(taken)
    for tick, one, least, _ in looks:
        if one == rank:
            told[tick] = max(told[tick], taken[tick] + least)
    return told


def told_most(hall, book, looks, rank):
    """Of -1 and of each tick of which it is told: as many of the rank as had come by then at most."""
    taken = taken_by(book, rank)
    written = [(tick, taken[tick] + most) for tick, one, _, most in looks if one == rank]
    told = {-1: 0}
    for tick, many in written + _nobody_left(hall, book, rank):
        told[tick] = min(many, told.get(tick, many))
    return told


def _nobody_left(hall, book, rank):
    """Pairs (tick, many): a free desk passed the rank over then, so no more had come than many."""
    found = []
    many = 0
    free = free_at_first(hall)
    for tick, row in enumerate(book):
        for desk, at, one in zip(hall[1], free, row):
            if at <= tick and rank in desk and (one is None or one > rank):
                found.append((tick, many))
            if one == rank:
                many += 1
        free = free_behind(hall, free, tick, row)
    return found
