"""Whether every two sortings have a least common one, and why not."""
from listbylist.bookkinds import are_tied, is_row
from listbylist.books import ties_of
from listbylist.errors import InvalidPaper
from listbylist.joints import begins
from listbylist.masks import mask_of, near_masks, things_of
from listbylist.taking import is_bare_ring


def next_in_ring(near, path):
    """The things that a path of a bare ring may go on to; its first thing is the least."""
    room = near[path[-1]] & ~mask_of(path)
    return [
        thing
        for thing in things_of(room)
        if thing > path[0] and not near[thing] & mask_of(path[1:-1])
    ]


def bare_rings(near):
    """All bare rings, each both ways round from its least thing."""
    rings = []
    paths = [(first, second) for first in range(len(near)) for second in things_of(near[first]) if second > first]
    while paths:
        grown = [path + (more,) for path in paths for more in next_in_ring(near, path)]
        rings.extend([path for path in grown if len(path) >= 4 and near[path[0]] >> path[-1] & 1])
        paths = [path for path in grown if not near[path[0]] >> path[-1] & 1]
    return rings


def fewest_one_way(ring):
    """How many ties lead round the ring at the base the way in which fewer do."""
    rising = len([k for k in range(len(ring)) if ring[k - 1] < ring[k]])
    return min(rising, len(ring) - rising)


def next_in_row(near, row, high):
    """The things that a row up to high may go on to, of those that only neighbours in it are tied to."""
    low = row[0]
    return [
        thing
        for thing in things_of(near[row[-1]])
        if row[-1] < thing
        and thing <= high
        and not near[thing] & mask_of(row[1:-1])
        and (thing == high or len(row) == 1 or not near[thing] >> low & 1)
    ]


def bare_rows(near, low, high):
    """All rows of at least three things from low to high of whose inner things just neighbours are tied."""
    found = []
    rows = [(low, thing) for thing in next_in_row(near, (low,), high) if thing != high]
    while rows:
        grown = [row + (more,) for row in rows for more in next_in_row(near, row, high)]
        found.extend([row for row in grown if row[-1] == high])
        rows = [row for row in grown if row[-1] != high]
    return found


def are_apart(near, row, other):
    """True if no inner thing of the one row is one of the other row or tied to one."""
    inner = mask_of(other[1:-1])
    return not any([(near[thing] | (1 << thing)) & inner for thing in row[1:-1]])


def rows_apart(near, tie):
    """Two rows from low to high as loop_of tells them, or None."""
    rows = bare_rows(near, tie[0], tie[1])
    for k, row in enumerate(rows):
        for other in rows[:k]:
            if are_apart(near, row, other):
                return (other, row)
    return None


def loop_of(book):
    """None if every two sortings have a least common one, else any paper."""
    near = near_masks(book)
    for ring in bare_rings(near):
        if fewest_one_way(ring) >= 2:
            return ("loop", ring)
    for tie in ties_of(book):
        rows = rows_apart(near, tie)
        if rows is not None:
            return ("rows",) + rows
    return None


def has_least(book):
    """True if every two sortings have a least common one."""
    return loop_of(book) is None


def are_bare(book, row):
    """True if of the things of the row just neighbours and the two ends are tied."""
    near = near_masks(book)
    ends = mask_of((row[0], row[-1]))
    return not any([
        near[row[k]] & mask_of(row[k + 2:]) & ~(ends if k == 0 else 0) for k in range(len(row))
    ])


def check_rows(book, rows):
    """Raise InvalidPaper unless the two rows are as loop_of tells them."""
    for k, row in enumerate(rows):
        if not is_row(book, row) or len(row) < 3:
            raise InvalidPaper("row", k)
    row, other = rows
    if row[0] != other[0] or row[-1] != other[-1] or not are_tied(book, row[0], row[-1]):
        raise InvalidPaper("ends", -1)
    if any([thing in other for thing in row[1:-1]]):
        raise InvalidPaper("inner", -1)
    if not are_bare(book, row) or not are_bare(book, other) or not are_apart(near_masks(book), row, other):
        raise InvalidPaper("tied", -1)


def lets_loop(book, thing):
    """A checker: the first element."""
    if begins(thing, "loop", 2):
        if not is_bare_ring(book, thing[1]):
            raise InvalidPaper("ring", -1)
        if fewest_one_way(thing[1]) < 2:
            raise InvalidPaper("ways", -1)
        return "loop"
    if begins(thing, "rows", 3):
        check_rows(book, (thing[1], thing[2]))
        return "rows"
    raise InvalidPaper("shape", -1)
