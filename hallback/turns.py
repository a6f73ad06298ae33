"""The desks' turns: from which tick each one is free, and whom the free ones take."""


def free_at_first(hall):
    """Of each desk the tick from which it is free, as nobody has been taken yet."""
    return [0 for _ in hall[1]]


def free_behind(hall, free, tick, row):
    """Of each desk the tick from which it is free, once the desks took the row at the tick."""
    ranks = hall[0]
    return [at if rank is None else tick + ranks[rank][1] for at, rank in zip(free, row)]


def first_waiting(desk, waiting):
    """The first rank of the desk's own of which anybody waits, None where nobody does."""
    for rank in desk:
        if waiting[rank] > 0:
            return rank
    return None


def row_taken(hall, free, tick, waiting):
    """The row that the desks take at the tick, where so many of each rank wait ahead of it."""
    left = list(waiting)
    row = []
    for desk, at in zip(hall[1], free):
        rank = first_waiting(desk, left) if at <= tick else None
        if rank is not None:
            left[rank] -= 1
        row.append(rank)
    return tuple(row)
