"""Nexts: whom the desks can take next, and the look that would tell most."""

from hallback.halls import need_written
from hallback.steps import all_steps
from hallback.told import taken_by
from hallback.turns import all_stays, free_from
from hallback.ways import ways_on, ways_to, ways_within


def nexts(hall, book, looks):
    """All rows that the next tick can have, in order, each with how many comings lead to it."""
    columns = need_written(hall, book, looks)
    every = all_steps(hall, columns, looks)
    if every is None:
        return []
    waiting = [_waiting_next(hall, book, rank, steps) for rank, steps in enumerate(every)]
    found = []
    for row, emptied in _rows_next(hall, columns):
        many = 1
        for rank, (just, more) in enumerate(waiting):
            taken = row.count(rank)
            many = many * (just[taken] if rank in emptied else more[taken])
        if many > 0:
            found.append((row, many))
    return found


def best_look(hall, book, looks):
    """The look by whose worst answer the fewest comings are left, and how many; None where none or one do."""
    columns = need_written(hall, book, looks)
    every = all_steps(hall, columns, looks)
    if every is None:
        return None
    answers = [_worst_answers(steps, most) for steps, (most, _) in zip(every, hall[0])]
    comings = 1
    for many, _ in answers:
        comings = comings * many
    if comings == 1:
        return None
    looked = []
    for rank, (many, worst) in enumerate(answers):
        looked += [(comings // many * left, tick, rank) for tick, left in enumerate(worst)]
    fewest, tick, rank = min(looked)
    return tick, rank, fewest


def _rows_next(hall, columns):
    """Pairs: a row that the next tick can have, in order, and the ranks of which nobody is left then."""
    stays = all_stays(hall)
    found = [((), ())]
    for column, desk in zip(columns, hall[1]):
        if free_from(stays, column) > len(column):
            found = [((*row, None), emptied) for row, emptied in found]
        else:
            found = [longer for row, emptied in found for longer in _with_turn(row, emptied, desk)]
    return found


def _with_turn(row, emptied, desk):
    """The same pairs, with each turn more that the free desk can have: of whom it passes over nobody is left."""
    found = [((*row, None), (*emptied, *desk))]
    for place, one in enumerate(desk):
        if one not in emptied:
            found.append(((*row, one), (*emptied, *desk[:place])))
    return found


def _waiting_next(hall, book, rank, steps):
    """By how many of the rank wait ahead of the next takings, just so many and no fewer: how many rows lead there."""
    most = hall[0][rank][0]
    last = ways_to(steps, most)[-1]
    # What the next tick can have in itself bars nothing: all that come then go on from the last tick.
    ways = ways_within(last, most, 0, len(last) + most)
    fewest = steps[-1][0] - taken_by(book, rank)[-1]
    places = range(-fewest, len(hall[1]) + 1 - fewest)
    just = [ways[place] if 0 <= place < len(ways) else 0 for place in places]
    return just, [sum(ways[max(0, place):]) for place in places]


def _worst_answers(steps, most):
    """How many rows of the rank there are, and of each tick how many are left by the worst answer."""
    ahead = ways_to(steps, most)
    worst = []
    for to, on in zip(ahead, ways_on(steps, most)):
        worst.append(max([ways * more for ways, more in zip(to, on)]))
    return sum(ahead[-1]), worst
