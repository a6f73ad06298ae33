"""Orders: in which order ranks can go, where that isn't known."""

from itertools import permutations

from hallback.halls import need_book, need_hall
from hallback.steps import is_barred, steps_down, steps_up
from hallback.told import told_of
from hallback.turns import all_turns
from hallback.ways import all_ways


def orders(hall, book):
    """All orders by which some comings do, in order, each with how many."""
    need_hall(hall)
    turns = all_turns(hall, need_book(hall, book))
    # How many of a rank come hangs only on which ranks are behind it, not on their order.
    known = {}
    found = []
    for order in _orders_with(hall, _pairs(hall, turns)):
        many = 1
        for place, rank in enumerate(order):
            behind = tuple(sorted(order[place + 1:]))
            if (rank, behind) not in known:
                known[rank, behind] = _ways_of(hall, turns, rank, behind)
            many = many * known[rank, behind]
        found.append((order, many))
    return found


def must_be_ahead(hall, book):
    """All pairs (one, other), rising, such that other can't stand ahead of one; None where no order does."""
    need_hall(hall)
    turns = all_turns(hall, need_book(hall, book))
    pairs = _pairs(hall, turns)
    return pairs if _orders_with(hall, pairs) else None


def _pairs(hall, turns):
    """All pairs (one, other) such that other is barred ahead of one.

    Who is barred ahead of nobody stands there as a pair with itself, too, so that no order has all the pairs.
    """
    ranks = range(len(hall[0]))
    return [(one, other) for one in ranks for other in ranks if is_barred(_up(hall, turns, other, (one,)))]


def _orders_with(hall, pairs):
    """All orders in which the one of each pair stands ahead of the other."""
    found = []
    for order in permutations(range(len(hall[0]))):
        if all([order.index(one) < order.index(other) for one, other in pairs]):
            found.append(order)
    return found


def _up(hall, turns, rank, behind):
    """The steps up of the rank, with these ranks alone behind it."""
    return steps_up(told_of(hall, turns, rank, behind, 0), hall[0][rank][0], 0, 0)


def _ways_of(hall, turns, rank, behind):
    most = hall[0][rank][0]
    return all_ways(steps_down(_up(hall, turns, rank, behind), most), most)
