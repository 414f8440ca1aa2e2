"""Which values are integers, numbers, lots and lines."""


def is_integer(thing):
    """True if thing is an int that is not a bool."""
    return isinstance(thing, int) and not isinstance(thing, bool)


def is_number(thing):
    """True if thing is an integer that is at least 0."""
    return is_integer(thing) and thing >= 0


def is_below(size, thing):
    """True if thing is a number below size."""
    return is_number(thing) and thing < size


def is_rising(things):
    """True if each of these, which can be compared, is greater than the one before it."""
    return all([things[k - 1] < things[k] for k in range(1, len(things))])


def are_below(size, thing):
    """True if thing is a tuple of numbers below size."""
    return isinstance(thing, tuple) and all([is_below(size, one) for one in thing])


def are_unlike_below(size, thing):
    """True if thing is a tuple of numbers below size, no two of them the same."""
    return are_below(size, thing) and len(set(thing)) == len(thing)


def is_lot(size, thing):
    """True if thing is an ascending tuple of numbers below size."""
    return are_below(size, thing) and is_rising(thing)


def is_line(size, thing):
    """True if thing is a tuple of all numbers below size, each once."""
    return are_unlike_below(size, thing) and len(thing) == size
