"""What things are by themselves: whole numbers, tuples of so many, rising ones."""


def is_whole(thing):
    """Whether this is a whole number: an int that is no truth."""
    return isinstance(thing, int) and not isinstance(thing, bool)


def is_from_to(thing, low, high):
    """Whether this is a whole number from low to high, both included."""
    return is_whole(thing) and low <= thing <= high


def is_tuple(thing, least, most):
    """Whether this is a tuple of no fewer and no more things."""
    return isinstance(thing, tuple) and least <= len(thing) <= most


def is_rising(things):
    """Whether each thing is ahead of the next one; they must be such as can be compared."""
    return all([one < other for one, other in zip(things, things[1:])])
