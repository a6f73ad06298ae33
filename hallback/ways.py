"""Ways: in how many ways steps are gone, up to each one and on from it.

Told are lists of one list a tick: of each number from the tick's low to its high, had come by then, the ways.
"""

from itertools import accumulate


def ways_to(steps, most):
    """How many rows there are up to each tick."""
    found = []
    ahead = [1]
    low_ahead = 0
    for low, high in steps:
        ahead = ways_within(ahead, most, low - low_ahead, high - low + 1)
        found.append(ahead)
        low_ahead = low
    return found


def ways_on(steps, most):
    """How many rows there are behind each tick."""
    low_behind, high = steps[-1]
    behind = [1] * (high - low_behind + 1)
    found = [behind]
    for low, high in reversed(steps[:-1]):
        behind = ways_within(behind, most, low + most - low_behind, high - low + 1)
        found.append(behind)
        low_behind = low
    return found[::-1]


def all_ways(steps, most):
    """How many rows there are of all ticks."""
    return sum(ways_to(steps, most)[-1])


def all_comings(hall, every):
    """How many comings there are, of the steps of each rank: as many as of each, one times the other."""
    many = 1
    for steps, (most, _) in zip(every, hall[0]):
        many = many * all_ways(steps, most)
    return many


def ways_within(ways, most, start, many):
    """Of so many places from the start on: all ways at the place and at as many places ahead of it, added up."""
    by = list(accumulate(ways))
    # What lies ahead of the first place, or behind the last one, adds nothing.
    by = [0] * (most + 1) + by + [by[-1]] * most
    behind = start + most + 1
    return [one - other for one, other in zip(by[behind:behind + many], by[start:start + many])]
