"""Nexts: whom the desks can take next, and the look that would tell most."""

from hallback.halls import need_written
from hallback.stairs import all_stairs
from hallback.told import taken_by
from hallback.turns import free_at_first, free_behind, row_taken
from hallback.ways import all_ways, ways_on, ways_to


def nexts(hall, book, looks):
    """All rows that the next tick can have, in order, each with how many comings lead to it."""
    need_written(hall, book, looks)
    every = all_stairs(hall, book, looks)
    if every is None:
        return []
    free = _free_next(hall, book)
    found = {}
    for waiting, many in _waiting_next(hall, book, every):
        row = row_taken(hall, free, len(book), waiting)
        found[row] = found.get(row, 0) + many
    return sorted(found.items(), key=_none_first)


def best_look(hall, book, looks):
    """The look by whose worst answer the fewest comings are left, and how many; None where none or one do."""
    need_written(hall, book, looks)
    every = all_stairs(hall, book, looks)
    if every is None:
        return None
    ways = [all_ways(steps, most) for steps, (most, _) in zip(every, hall[0])]
    comings = _times(ways)
    if comings == 1:
        return None
    worst = []
    for rank, steps in enumerate(every):
        others = comings // ways[rank]
        for tick, many in enumerate(_worst_answers(steps, hall[0][rank][0])):
            worst.append((many * others, tick, rank))
    fewest, tick, rank = min(worst)
    return tick, rank, fewest


def _free_next(hall, book):
    free = free_at_first(hall)
    for tick, row in enumerate(book):
        free = free_behind(hall, free, tick, row)
    return free


def _waiting_next(hall, book, every):
    """Pairs: how many of each rank wait ahead of the next takings, and how many comings lead there."""
    found = [((), 1)]
    for rank, steps in enumerate(every):
        gone = taken_by(book, rank)[-1]
        by = _waiting_of(steps, hall[0][rank][0], gone, len(hall[1]))
        found = [((*ahead, left), ways * more) for ahead, ways in found for left, more in by.items()]
    return found


def _waiting_of(steps, most, gone, desks):
    """By how many of a rank wait ahead of the next takings: how many rows lead there."""
    found = {}
    for had_come, ways in ways_to(steps, most)[-1].items():
        for come in range(most + 1):
            # The desks take no more than one each, so more than that many make no difference.
            left = min(had_come + come - gone, desks)
            found[left] = found.get(left, 0) + ways
    return found


def _worst_answers(steps, most):
    """Of each tick how many rows of the rank are left by the worst answer."""
    worst = []
    for ahead, behind in zip(ways_to(steps, most), ways_on(steps, most)):
        worst.append(max([ways * behind[many] for many, ways in ahead.items()]))
    return worst


def _times(numbers):
    all_times = 1
    for number in numbers:
        all_times = all_times * number
    return all_times


def _none_first(pair):
    return [-1 if rank is None else rank for rank in pair[0]]
