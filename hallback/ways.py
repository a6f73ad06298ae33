"""Ways: in how many ways stairs are gone, up to each step and on from it."""


def ways_to(steps, most):
    """Of each tick, by how many of the rank had come by then: how many rows there are up to it."""
    found = []
    ahead = {0: 1}
    for low, high in steps:
        ahead = {many: _sum_of(ahead, many - most, many) for many in range(low, high + 1)}
        found.append(ahead)
    return found


def ways_on(steps, most):
    """Of each tick, by how many of the rank had come by then: how many rows there are behind it."""
    low, high = steps[-1]
    behind = {many: 1 for many in range(low, high + 1)}
    found = [behind]
    for low, high in reversed(steps[:-1]):
        behind = {many: _sum_of(behind, many, many + most) for many in range(low, high + 1)}
        found.append(behind)
    return found[::-1]


def all_ways(steps, most):
    """How many rows there are of all ticks."""
    return sum(list(ways_to(steps, most)[-1].values()))


def _sum_of(ways, low, high):
    return sum([ways.get(many, 0) for many in range(low, high + 1)])
