"""The words of the document, gone through outright: slow, and independent of the package.

Books of the tests, values of wrong kinds, and values with one thing changed stand here, too.
"""
import random
from itertools import combinations, permutations, product

LIST = (3, ((0, 1, 2),))
PAIR = (4, ((0, 1, 2), (1, 2, 3)))
GAP = (4, ((0, 1, 2), (0, 2, 3)))
LOOP = (4, ((0, 2), (0, 3), (1, 2), (1, 3)))
THREE = (3, ((0, 1), (0, 2), (1, 2)))

# One book of each shape, five things at most.
SHAPES = (
    LIST, PAIR, GAP, LOOP, THREE,
    (1, ()), (2, ()), (2, ((0, 1),)), (4, ()),
    (4, ((0, 1, 2, 3),)),
    (5, ((0, 2), (1, 3, 4))),
    (5, ((0, 1, 2), (2, 3, 4))),
    (5, ((0, 2, 4), (1, 2, 3))),
    (5, ((0, 1, 2, 3), (1, 2, 3, 4))),
    (5, ((0, 1, 2, 4), (0, 2, 3, 4))),
    (4, ((0, 1), (1, 2), (0, 2), (2, 3))),
    (4, ((0, 1), (1, 2), (2, 3))),
    (4, ((0, 1, 2), (0, 1, 2))),
    (4, ((0, 1, 3), (1, 3))),
    (5, ((1, 3),)),
    (4, ((0, 1), (1, 2), (2, 3), (0, 3))),
    (4, ((0, 1), (0, 2), (1, 3), (2, 3))),
    (5, ((0, 1), (1, 2), (2, 3), (3, 4), (0, 4))),
    (5, ((0, 2), (2, 4), (1, 4), (1, 3), (0, 3))),
    (5, ((0, 1), (0, 2), (1, 3), (2, 3), (3, 4))),
    (4, ((0, 1, 3), (0, 2, 3))),
    (5, ((0, 1, 4), (0, 2, 4), (0, 3, 4))),
    (5, ((0, 1, 2), (0, 2, 3), (0, 3, 4))),
    (5, ((0, 1), (1, 4), (0, 4), (0, 2), (2, 3), (3, 4))),
)


def drawn_book(draw, size):
    """A book of some lists drawn by a random.Random."""
    lists = []
    for _ in range(draw.randrange(1, 5)):
        many = draw.choice([2, 2, 2, 3, 3, 4])
        lists.append(tuple(sorted(draw.sample(range(size), min(many, size)))))
    return (size, tuple(things for things in lists if len(things) > 1))


def drawn_books(many, size, seed):
    draw = random.Random(seed)
    return tuple(drawn_book(draw, size) for _ in range(many))


SMALL = SHAPES + drawn_books(12, 4, 1) + drawn_books(14, 5, 2)


def ring_book(size):
    """A book that is one bare ring."""
    return (size, tuple(tuple(sorted((x, (x + 1) % size))) for x in range(size)))


def band_book(size, wide):
    """A book of lists of wide neighbouring things."""
    return (size, tuple(tuple(range(x, x + wide)) for x in range(size - wide + 1)))


def grown_book(draw, size, most):
    """A book without a bare ring: each thing comes to a part of a list that is there."""
    lists = [(0,)]
    for thing in range(1, size):
        base = draw.choice(lists)
        part = draw.sample(base, draw.randrange(0, min(len(base), most - 1) + 1))
        new = tuple(sorted(part + [thing]))
        if len(part) == len(base):
            lists.remove(base)
        lists.append(new)
    numbers = list(range(size))
    draw.shuffle(numbers)
    lists = [tuple(sorted(numbers[thing] for thing in things)) for things in lists]
    return (size, tuple(things for things in lists if len(things) > 1))


def is_int(value):
    return type(value) is int


def is_below(size, value):
    return is_int(value) and 0 <= value < size


def same(one, other):
    """Equal, and of the same kinds throughout: True is not 1."""
    if type(one) is not type(other):
        return False
    if isinstance(one, (tuple, list)):
        return len(one) == len(other) and all(same(a, b) for a, b in zip(one, other))
    return one == other


def lots(things):
    """All lots of some of the things."""
    things = sorted(things)
    for many in range(len(things) + 1):
        yield from combinations(things, many)


def tied(book, here, there):
    return here != there and any(here in things and there in things for things in book[1])


def ties(book):
    return tuple(pair for pair in combinations(range(book[0]), 2) if tied(book, *pair))


def is_tie(book, value):
    return (
        type(value) is tuple and len(value) == 2 and all(is_below(book[0], x) for x in value)
        and value[0] < value[1] and tied(book, *value)
    )


def is_lot(book, value):
    return (
        type(value) is tuple and all(is_below(book[0], x) for x in value)
        and all(a < b for a, b in zip(value, value[1:]))
    )


def is_line(book, value):
    return (
        type(value) is tuple and all(is_below(book[0], x) for x in value)
        and sorted(value) == list(range(book[0]))
    )


def is_row(book, value):
    return is_lot(book, value) and len(value) > 1 and all(tied(book, a, b) for a, b in zip(value, value[1:]))


def is_ties(book, value):
    return type(value) is tuple and all(is_tie(book, x) for x in value) and all(
        a < b for a, b in zip(value, value[1:]))


def between(book, tie):
    low, high = tie
    return tuple(x for x in range(low + 1, high) if tied(book, low, x) and tied(book, x, high))


def full(book):
    found = []
    for lot in lots(range(book[0])):
        others = [x for x in range(book[0]) if x not in lot]
        if lot and all(tied(book, *pair) for pair in combinations(lot, 2)) and not any(
                all(tied(book, x, y) for y in lot) for x in others):
            found.append(lot)
    return tuple(sorted(found))


def is_ring(book, value):
    if type(value) is not tuple or len(value) < 4 or not all(is_below(book[0], x) for x in value):
        return False
    if len(set(value)) < len(value):
        return False
    last = len(value) - 1
    return all(
        tied(book, value[i], value[j]) == (j - i == 1 or (i, j) == (0, last))
        for i, j in combinations(range(len(value)), 2)
    )


def rings(book):
    return [
        ring for many in range(4, book[0] + 1) for ring in permutations(range(book[0]), many)
        if is_ring(book, ring)
    ]


def in_stretch(order, lot):
    """Whatever stands between two of the lot is of the lot."""
    return all(
        order[j] in lot
        for i, j, k in combinations(range(len(order)), 3) if order[i] in lot and order[k] in lot
    )


def jointed(book):
    lists = full(book)
    return not rings(book) and all(
        in_stretch(one, [x for x in one if x in other]) for one, other in permutations(lists, 2))


def rows(book, low, high):
    """All rows from low to high."""
    inner = range(low + 1, high)
    found = [(low, *lot, high) for lot in lots(inner)]
    return [row for row in found if is_row(book, row)]


def ahead(turned, here, there):
    """True if of two tied things here is ahead when just the ties of turned are turned."""
    tie = (min(here, there), max(here, there))
    return (here > there) == (tie in turned)


def by_line(book, line):
    """The sorting that the line fits."""
    return tuple((a, b) for a, b in ties(book) if line.index(b) < line.index(a))


def fits(book, turned, line):
    """No tie leads from a thing to one that stands earlier in the line."""
    return all(
        line.index(x) < line.index(y) for x, y in permutations(range(book[0]), 2)
        if tied(book, x, y) and ahead(turned, x, y)
    )


def in_round(book, turned):
    """True if these ties, turned, lead in a round: take away what leads to nothing left."""
    left = set(range(book[0]))
    while True:
        gone = {x for x in left if not any(tied(book, x, y) and ahead(turned, x, y) for y in left)}
        if not gone:
            return bool(left)
        left -= gone


def is_round(book, turned, value):
    return (
        type(value) is tuple and len(value) >= 3 and all(is_below(book[0], x) for x in value)
        and len(set(value)) == len(value)
        and all(
            tied(book, x, y) and ahead(turned, x, y)
            for x, y in zip(value, value[1:] + value[:1]))
    )


def is_sorting(book, value):
    return is_ties(book, value) and not in_round(book, value)


def is_sortings(book, value):
    return type(value) is tuple and all(is_sorting(book, x) for x in value)


def sortings(book):
    """All lots of ties that do not lead in a round, ascending."""
    return sorted(lot for lot in lots(ties(book)) if not in_round(book, lot))


def told_by(book, orders):
    """What a tuple of orders of lists that hold all ties gives: a quarrel, a round, or a sorting."""
    put = {}
    for order in orders:
        for x, y in combinations(order, 2):
            put.setdefault((min(x, y), max(x, y)), set()).add(x > y)
    quarrels = sorted(tie for tie, both in put.items() if len(both) > 1)
    if quarrels:
        return ("Quarrel", quarrels[0])
    turned = tuple(sorted(tie for tie, both in put.items() if both == {True}))
    return ("InRound",) if in_round(book, turned) else ("gives", turned)


def is_book(value):
    if type(value) is not tuple or len(value) != 2:
        return False
    size, lists = value
    if not is_int(size) or size < 1 or type(lists) is not tuple:
        return False
    return all(
        type(things) is tuple and len(things) > 1 and all(is_below(size, x) for x in things)
        and all(a < b for a, b in zip(things, things[1:]))
        for things in lists
    )


def refused(call, *given):
    """What a call gives: ("gives", value), or the name of its error and its fields."""
    try:
        return ("gives", call(*given))
    except ValueError as error:
        return (type(error).__name__, *vars(error).values())


def told(*fields):
    return ("InvalidPaper", *fields)


# Values of no kind that any function asks, but for those that a test leaves out.
ODD = (
    None, True, False, -1, -7, 10 ** 40, -10 ** 40, 41, "", "0", "0 1", "lot", [], [0], [0, 1], [[0, 1]],
    (None,), (True,), (False,), (True, False), (0, True), (False, True), (0, "1"), (-1, 0), (0, 10 ** 40),
    (1, 0), (0, 0), (1, 1), (0, 1, 1), ((1, 0),), ((0, 1), (0, 1)), ((0, True),), ((False, True),),
    ((0, 1), None), ([0, 1],), ((0, 1, 2),), ((0, 2), (0, 1)), ((),), (((),),), ((((0,),),),),
    [(0, 1)], ((0, 1), [0, 2]), ("0", "1"), ((0, "1"),), (0, (1,)), ((0,), 1), (0, None),
)


def swaps(value):
    """The elements of the tuple or list, one pair of neighbours swapped."""
    for k in range(len(value) - 1):
        yield value[:k] + value[k + 1:k + 2] + value[k:k + 1] + value[k + 2:]


def changes(value):
    """Values with one thing changed, somewhere."""
    if isinstance(value, tuple):
        yield list(value)
        yield value + (0,)
        yield value + ((0, 1),)
        yield from swaps(value)
        for k, part in enumerate(value):
            yield value[:k] + value[k + 1:]
            yield value[:k] + value[k:k + 1] + value[k:]
            for other in changes(part):
                yield value[:k] + (other,) + value[k + 1:]
    elif is_int(value):
        yield from (value + 1, value - 1, value + 2, 0, 1, bool(value), None, str(value), 10 ** 40, -1, (value,))
    elif isinstance(value, str):
        yield from (value + "s", "", "ring", "gap", "loop", "rows", None, 0)
    else:
        yield from (0, (), "x")


def pairs_of(values):
    return list(product(values, repeat=2))
