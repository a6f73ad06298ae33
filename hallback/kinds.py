"""What things are by themselves: whole numbers, tuples of so many, rising ones."""


def is_whole(thing):
    """Whether this is a whole number: an int that is no truth."""
    return isinstance(thing, int) and not isinstance(thing, bool)


def are_whole(things):
    """Whether all things are whole numbers."""
    for thing in things:
        # Nearly all are plain ints, which is asked sooner.
        if type(thing) is not int and not is_whole(thing):
            return False
    return True


def is_from_to(thing, low, high):
    """Whether this is a whole number from low to high, both included."""
    return is_whole(thing) and low <= thing <= high


def is_tuple(thing, least, most):
    """Whether this is a tuple of no fewer and no more things."""
    return isinstance(thing, tuple) and least <= len(thing) <= most


def are_rows(thing, most, wide):
    """Whether this is a tuple of 1 to so many tuples, each of just so many things."""
    if not is_tuple(thing, 1, most):
        return False
    return [len(row) for row in thing if isinstance(row, tuple)] == [wide] * len(thing)


def is_rising(things):
    """Whether each thing is ahead of the next one; they must be such as can be compared."""
    for one, other in zip(things, things[1:]):
        if not one < other:
            return False
    return True
