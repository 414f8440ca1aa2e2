"""The words of the document, gone through outright: slow, and independent of the package.

Books of the tests, values of wrong kinds, and values with one thing changed stand here, too.
"""
import random
from functools import lru_cache
from itertools import combinations, permutations, product

LIST = (3, ((0, 1, 2),))
PAIR = (4, ((0, 1, 2), (1, 2, 3)))
GAP = (4, ((0, 1, 2), (0, 2, 3)))
LOOP = (4, ((0, 2), (0, 3), (1, 2), (1, 3)))
THREE = (3, ((0, 1), (0, 2), (1, 2)))

# One book of each shape, five things at most.
SHAPES = (
    LIST, PAIR, GAP, LOOP, THREE,
    (1, ()), (2, ()), (2, ((0, 1),)), (4, ()),
    (4, ((0, 1, 2, 3),)),
    (5, ((0, 2), (1, 3, 4))),
    (5, ((0, 1, 2), (2, 3, 4))),
    (5, ((0, 2, 4), (1, 2, 3))),
    (5, ((0, 1, 2, 3), (1, 2, 3, 4))),
    (5, ((0, 1, 2, 4), (0, 2, 3, 4))),
    (4, ((0, 1), (1, 2), (0, 2), (2, 3))),
    (4, ((0, 1), (1, 2), (2, 3))),
    (4, ((0, 1, 2), (0, 1, 2))),
    (4, ((0, 1, 3), (1, 3))),
    (5, ((1, 3),)),
    (4, ((0, 1), (1, 2), (2, 3), (0, 3))),
    (4, ((0, 1), (0, 2), (1, 3), (2, 3))),
    (5, ((0, 1), (1, 2), (2, 3), (3, 4), (0, 4))),
    (5, ((0, 2), (2, 4), (1, 4), (1, 3), (0, 3))),
    (5, ((0, 1), (0, 2), (1, 3), (2, 3), (3, 4))),
    (4, ((0, 1, 3), (0, 2, 3))),
    (5, ((0, 1, 4), (0, 2, 4), (0, 3, 4))),
    (5, ((0, 1, 2), (0, 2, 3), (0, 3, 4))),
    (5, ((0, 1), (1, 4), (0, 4), (0, 2), (2, 3), (3, 4))),
)


# Well jointed books: some more shapes, six things at most, few enough sortings to go through them.
MORE_JOINTED = (
    (3, ((0, 1), (1, 2))), (3, ((0, 2),)), (4, ((0, 2), (0, 1, 3))), (4, ((0, 1, 2), (2, 3))), (4, ((0, 2, 3), (1, 2, 3))),
    (4, ((0, 1), (0, 2), (0, 3), (1, 2), (1, 3), (2, 3))), (4, ((0, 1, 2, 3), (1, 2), (1, 2, 3))),
    (5, ((0, 1), (1, 2, 3), (3, 4))), (5, ((0, 1, 2), (1, 2, 3), (2, 3, 4))), (5, ((0, 3, 4), (1, 3, 4), (2, 3, 4))),
    (5, ((0, 1, 2, 3), (2, 3, 4))), (5, ((0, 2, 3, 4), (1, 2, 3))), (6, ((0, 1, 2), (1, 2, 3), (3, 4, 5))),
    (6, ((0, 3), (1, 3), (2, 3), (3, 4), (3, 5))), (6, ((0, 1, 2), (3, 4, 5))),
)
FIVE = (5, ((0, 1, 2, 3, 4),))


def drawn_book(draw, size):
    """A book of some lists drawn by a random.Random."""
    lists = []
    for _ in range(draw.randrange(1, 5)):
        many = draw.choice([2, 2, 2, 3, 3, 4])
        lists.append(tuple(sorted(draw.sample(range(size), min(many, size)))))
    return (size, tuple(things for things in lists if len(things) > 1))


def drawn_books(many, size, seed):
    draw = random.Random(seed)
    return tuple(drawn_book(draw, size) for _ in range(many))


SMALL = SHAPES + drawn_books(12, 4, 1) + drawn_books(14, 5, 2)


def ring_book(size):
    """A book that is one bare ring."""
    return (size, tuple(tuple(sorted((x, (x + 1) % size))) for x in range(size)))


def band_book(size, wide):
    """A book of lists of wide neighbouring things."""
    return (size, tuple(tuple(range(x, x + wide)) for x in range(size - wide + 1)))


def grown_book(draw, size, most):
    """A book without a bare ring: each thing comes to a part of a list that is there."""
    lists = [(0,)]
    for thing in range(1, size):
        base = draw.choice(lists)
        part = draw.sample(base, draw.randrange(0, min(len(base), most - 1) + 1))
        new = tuple(sorted(part + [thing]))
        if len(part) == len(base):
            lists.remove(base)
        lists.append(new)
    numbers = list(range(size))
    draw.shuffle(numbers)
    lists = [tuple(sorted(numbers[thing] for thing in things)) for things in lists]
    return (size, tuple(things for things in lists if len(things) > 1))


def is_int(value):
    return type(value) is int


def is_below(size, value):
    return is_int(value) and 0 <= value < size


def same(one, other):
    """Equal, and of the same kinds throughout: True is not 1."""
    if type(one) is not type(other):
        return False
    if isinstance(one, (tuple, list)):
        return len(one) == len(other) and all(same(a, b) for a, b in zip(one, other))
    return one == other


def lots(things):
    """All lots of some of the things."""
    things = sorted(things)
    for many in range(len(things) + 1):
        yield from combinations(things, many)


def tied(book, here, there):
    return here != there and any(here in things and there in things for things in book[1])


def ties(book):
    return tuple(pair for pair in combinations(range(book[0]), 2) if tied(book, *pair))


def is_tie(book, value):
    return (
        type(value) is tuple and len(value) == 2 and all(is_below(book[0], x) for x in value)
        and value[0] < value[1] and tied(book, *value)
    )


def is_lot(book, value):
    return (
        type(value) is tuple and all(is_below(book[0], x) for x in value)
        and all(a < b for a, b in zip(value, value[1:]))
    )


def is_line(book, value):
    return (
        type(value) is tuple and all(is_below(book[0], x) for x in value)
        and sorted(value) == list(range(book[0]))
    )


def is_row(book, value):
    return is_lot(book, value) and len(value) > 1 and all(tied(book, a, b) for a, b in zip(value, value[1:]))


def is_ties(book, value):
    return type(value) is tuple and all(is_tie(book, x) for x in value) and all(
        a < b for a, b in zip(value, value[1:]))


def between(book, tie):
    low, high = tie
    return tuple(x for x in range(low + 1, high) if tied(book, low, x) and tied(book, x, high))


def full(book):
    found = []
    for lot in lots(range(book[0])):
        others = [x for x in range(book[0]) if x not in lot]
        if lot and all(tied(book, *pair) for pair in combinations(lot, 2)) and not any(
                all(tied(book, x, y) for y in lot) for x in others):
            found.append(lot)
    return tuple(sorted(found))


def is_ring(book, value):
    if type(value) is not tuple or len(value) < 4 or not all(is_below(book[0], x) for x in value):
        return False
    if len(set(value)) < len(value):
        return False
    last = len(value) - 1
    return all(
        tied(book, value[i], value[j]) == (j - i == 1 or (i, j) == (0, last))
        for i, j in combinations(range(len(value)), 2)
    )


def rings(book):
    return [
        ring for many in range(4, book[0] + 1) for ring in permutations(range(book[0]), many)
        if is_ring(book, ring)
    ]


def in_stretch(order, lot):
    """Whatever stands between two of the lot is of the lot."""
    return all(
        order[j] in lot
        for i, j, k in combinations(range(len(order)), 3) if order[i] in lot and order[k] in lot
    )


def jointed(book):
    lists = full(book)
    return not rings(book) and all(
        in_stretch(one, [x for x in one if x in other]) for one, other in permutations(lists, 2))


def rows(book, low, high):
    """All rows from low to high."""
    inner = range(low + 1, high)
    found = [(low, *lot, high) for lot in lots(inner)]
    return [row for row in found if is_row(book, row)]


def ahead(turned, here, there):
    """True if of two tied things here is ahead when just the ties of turned are turned."""
    tie = (min(here, there), max(here, there))
    return (here > there) == (tie in turned)


def by_line(book, line):
    """The sorting that the line fits."""
    return tuple((a, b) for a, b in ties(book) if line.index(b) < line.index(a))


def fits(book, turned, line):
    """No tie leads from a thing to one that stands earlier in the line."""
    return all(
        line.index(x) < line.index(y) for x, y in permutations(range(book[0]), 2)
        if tied(book, x, y) and ahead(turned, x, y)
    )


def in_round(book, turned):
    """True if these ties, turned, lead in a round: take away what leads to nothing left."""
    left = set(range(book[0]))
    while True:
        gone = {x for x in left if not any(tied(book, x, y) and ahead(turned, x, y) for y in left)}
        if not gone:
            return bool(left)
        left -= gone


def is_round(book, turned, value):
    return (
        type(value) is tuple and len(value) >= 3 and all(is_below(book[0], x) for x in value)
        and len(set(value)) == len(value)
        and all(
            tied(book, x, y) and ahead(turned, x, y)
            for x, y in zip(value, value[1:] + value[:1]))
    )


def is_sorting(book, value):
    return is_ties(book, value) and not in_round(book, value)


def is_sortings(book, value):
    return type(value) is tuple and all(is_sorting(book, x) for x in value)


@lru_cache(None)
def kept_sortings(book):
    return tuple(sorted(lot for lot in lots(ties(book)) if not in_round(book, lot)))


def sortings(book):
    """All lots of ties that do not lead in a round, ascending."""
    return list(kept_sortings(book))


def told_by(book, orders):
    """What a tuple of orders of lists that hold all ties gives: a quarrel, a round, or a sorting."""
    put = {}
    for order in orders:
        for x, y in combinations(order, 2):
            put.setdefault((min(x, y), max(x, y)), set()).add(x > y)
    quarrels = sorted(tie for tie, both in put.items() if len(both) > 1)
    if quarrels:
        return ("Quarrel", quarrels[0])
    turned = tuple(sorted(tie for tie, both in put.items() if both == {True}))
    return ("InRound",) if in_round(book, turned) else ("gives", turned)


def steps_of(row):
    return list(zip(row, row[1:]))


def row_ties(book, steps):
    """All ties from whose low to whose high a row leads with each step among these, by all rows."""
    return tuple(
        tie for tie in ties(book)
        if any(all(step in steps for step in steps_of(row)) for row in rows(book, *tie)))


def least_above(book, some):
    """The least sorting above all of some, among all sortings, or None."""
    above = [sorting for sorting in sortings(book) if all(set(one) <= set(sorting) for one in some)]
    least = [sorting for sorting in above if all(set(sorting) <= set(other) for other in above)]
    return least[0] if least else None


def greatest_beneath(book, some):
    beneath = [sorting for sorting in sortings(book) if all(set(sorting) <= set(one) for one in some)]
    greatest = [sorting for sorting in beneath if all(set(other) <= set(sorting) for other in beneath)]
    return greatest[0] if greatest else None


def merged_alone(book, things, some):
    """The order of a list merged by itself by the words of [7]: by all rows of its things."""
    turned = set().union(*some) if some else set()
    alone = (book[0], (things,)) if len(things) > 1 else (book[0], ())
    found = [
        tie for tie in combinations(things, 2)
        if any(all(step in turned for step in steps_of(row)) for row in rows(alone, *tie))]
    return tuple(sorted(things, key=lambda x: sum(ahead(found, y, x) for y in things if y != x)))


def draw_tuples(draw, book, many):
    """Tuples of none, one, two, three and eight sortings, and some with one of them twice."""
    found = sortings(book)
    yield ()
    yield (found[-1],)
    yield (draw.choice(found),) * 2
    yield tuple(draw.choice(found) for _ in range(8))
    for _ in range(many):
        yield tuple(draw.choice(found) for _ in range(draw.choice((2, 2, 2, 3))))


JOINTED = tuple(book for book in SMALL + MORE_JOINTED if jointed(book) and len(sortings(book)) <= 110)


def ropes(book):
    """All lots of what is between as what is ahead."""
    return sorted((*tie, lot) for tie in ties(book) for lot in lots(between(book, tie)))


def is_rope(book, value):
    return (
        type(value) is tuple and len(value) == 3 and is_tie(book, value[:2]) and is_lot(book, value[2])
        and set(value[2]) <= set(between(book, value[:2]))
    )


def is_ropes(book, value):
    return type(value) is tuple and all(is_rope(book, x) for x in value) and all(
        a < b for a, b in zip(value, value[1:]))


def behind(book, rope):
    return tuple(x for x in between(book, rope[:2]) if x not in rope[2])


def things_on(book, rope):
    return {*rope[:2], *between(book, rope[:2])}


def rope_puts(book, rope, x, y):
    """True if the rope puts x ahead of y: those ahead, high, low, those behind."""
    parts = (rope[2], rope[1:2], rope[:1], behind(book, rope))
    return any(x in one and y in other for one, other in combinations(parts, 2))


def crossings(book, rope, other):
    """All that shows that the two cross, by the words of [8]."""
    both = things_on(book, rope) & things_on(book, other)
    found = {
        ("against", x, y) for x, y in permutations(both, 2)
        if rope_puts(book, rope, x, y) and rope_puts(book, other, y, x)}
    for one, two in ((rope, other), (other, rope)):
        found |= {
            ("amid", z) for z in things_on(book, one)
            if rope_puts(book, one, two[1], z) and rope_puts(book, one, z, two[0])}
    return found


def shows(book, turned, rope):
    low, high, front = rope
    return ahead(turned, high, low) and all(
        ahead(turned, x, low) and ahead(turned, x, high) for x in front) and all(
        ahead(turned, low, x) and ahead(turned, high, x) for x in behind(book, rope))


def rises_by(book, turned, rope):
    """Low is put ahead of high, those ahead ahead of both, those behind behind both."""
    low, high, front = rope
    return ahead(turned, low, high) and all(
        ahead(turned, x, low) and ahead(turned, x, high) for x in front) and all(
        ahead(turned, low, x) and ahead(turned, high, x) for x in behind(book, rope))


def flip(turned, tie):
    return tuple(sorted(set(turned) ^ {tie}))


@lru_cache(None)
def open_ties(book, turned):
    """Those whose exchange gives a sorting."""
    return tuple(tie for tie in ties(book) if not in_round(book, flip(turned, tie)))


def falls(book, turned):
    return [tie for tie in open_ties(book, turned) if tie in turned]


def rises(book, turned):
    return [tie for tie in open_ties(book, turned) if tie not in turned]


@lru_cache(None)
def reasons(book, turned):
    """The ropes that it shows for its falls."""
    down = falls(book, turned)
    return tuple(rope for rope in ropes(book) if rope[:2] in down and shows(book, turned, rope))


@lru_cache(None)
def rise_reasons(book, turned):
    up = rises(book, turned)
    return tuple(
        rope for rope in ropes(book)
        if rope[:2] in up and set(rope[2]) == {
            x for x in between(book, rope[:2]) if ahead(turned, x, rope[0]) and ahead(turned, x, rope[1])})


WORDS = ("all", "none", "ropes", "above", "amid", "ahead", "behind", "not", "both", "either")


def is_pattern(book, value):
    if type(value) is not tuple or not value or type(value[0]) is not str:
        return False
    word, parts = value[0], value[1:]
    kinds = {
        "all": (), "none": (), "ropes": (is_ropes,), "above": (is_ropes,), "amid": (is_many,), "ahead": (is_many,),
        "behind": (is_many,), "not": (is_pattern,), "both": (is_pattern,) * 2, "either": (is_pattern,) * 2,
    }
    return word in kinds and len(parts) == len(kinds[word]) and all(
        kind(book, part) for kind, part in zip(kinds[word], parts))


def is_many(book, value):
    return is_int(value) and value >= 0


def pieces(book, rope):
    """Each rope whose ends are two things of the rope and whose ahead are those between that are ahead on it."""
    on = things_on(book, rope)
    return [
        (low, high, tuple(x for x in between(book, (low, high)) if x in rope[2]))
        for low, high in ties(book) if low in on and high in on]


def tells(book, pattern, rope):
    """True if the pattern tells the rope."""
    word, *parts = pattern
    if word in ("all", "none"):
        return word == "all"
    if word == "ropes":
        return rope in parts[0]
    if word == "above":
        return any(one in pieces(book, rope) for one in parts[0])
    if word == "not":
        return not tells(book, parts[0], rope)
    if word in ("both", "either"):
        told_by_parts = [tells(book, part, rope) for part in parts]
        return min(told_by_parts) if word == "both" else max(told_by_parts)
    counts = {"amid": between(book, rope[:2]), "ahead": rope[2], "behind": behind(book, rope)}
    return len(counts[word]) >= parts[0]


@lru_cache(None)
def told_ropes(book, pattern):
    return tuple(rope for rope in ropes(book) if tells(book, pattern, rope))


def falls_in(book, turned, pattern):
    told_here = told_ropes(book, pattern)
    return tuple(rope[:2] for rope in reasons(book, turned) if rope in told_here)


def undoes(book, turned, pattern, value):
    """True if value is a tuple of ties that, exchanged in sequence, each undo by the pattern."""
    if type(value) is not tuple:
        return False
    for tie in value:
        if not is_tie(book, tie) or tie not in falls_in(book, turned, pattern):
            return False
        turned = flip(turned, tie)
    return True


def choices(book):
    """(low end rope, high end rope, middle-ahead rope, middle-behind rope) of all choices of [9]."""
    for low, middle, high in combinations(range(book[0]), 3):
        if not (tied(book, low, middle) and tied(book, middle, high) and tied(book, low, high)):
            continue
        for front in lots(x for x in between(book, (low, high)) if x != middle):
            yield (
                (low, middle, tuple(x for x in between(book, (low, middle)) if x in front)),
                (middle, high, tuple(x for x in between(book, (middle, high)) if x in front)),
                (low, high, tuple(sorted(front + (middle,)))),
                (low, high, front))


def even(book, pattern):
    """On the rung "even", by all choices."""
    found = told_ropes(book, pattern)
    return all(
        ahead_rope in found and behind_rope in found for low, high, ahead_rope, behind_rope in choices(book)
        if low in found and high in found)


def ends_from(book, turned, pattern):
    """All ends to which undoing leads, in every sequence."""
    seen, left = {turned}, [turned]
    while left:
        one = left.pop()
        for tie in falls_in(book, one, pattern):
            other = flip(one, tie)
            if other not in seen:
                seen.add(other)
                left.append(other)
    return tuple(sorted(one for one in seen if not falls_in(book, one, pattern)))


def drawn_pattern(draw, book, deep=4):
    """A pattern with each of the ten words, at most so deep."""
    word = draw.choice(WORDS if deep > 1 else WORDS[:7])
    if word in ("all", "none"):
        return (word,)
    if word in ("ropes", "above"):
        every = ropes(book)
        many = draw.choice((0, 1, 1, 2, 3, len(every) // 2, len(every)))
        return (word, tuple(sorted(draw.sample(every, min(many, len(every))))))
    if word in ("amid", "ahead", "behind"):
        return (word, draw.choice((0, 1, 1, 1, 2, 2, 3, 40)))
    return (word, *(drawn_pattern(draw, book, deep - 1) for _ in range(1 if word == "not" else 2)))


def each_word(draw, book):
    """A pattern for each of the ten words, and others up to four deep."""
    every = ropes(book)
    few = tuple(sorted(draw.sample(every, min(2, len(every)))))
    yield from (("all",), ("none",), ("ropes", ()), ("above", ()), ("ropes", tuple(every)), ("ropes", few), ("above", few))
    yield from ((word, many) for word in ("amid", "ahead", "behind") for many in (0, 1, 2))
    yield from (("not", ("ropes", few)), ("not", ("not", ("not", ("ahead", 1)))), ("both", ("ahead", 1), ("behind", 1)))
    yield from (("either", ("ropes", few), ("amid", 2)), ("both", ("not", ("above", few)), ("either", ("all",), ("none",))))
    for _ in range(8):
        yield drawn_pattern(draw, book)


RUNGS = ("even", "greatest", "least", "closed")


@lru_cache(None)
def asks(book, rung):
    """All (given, missing): where the ropes given, end ropes of one choice, are told, the rung asks what is missing."""
    found = set()
    for low, high, ahead_rope, behind_rope in choices(book):
        found |= set({
            "even": (((low, high), ahead_rope), ((low, high), behind_rope)),
            "greatest": (((low,), ahead_rope), ((high,), behind_rope)),
            "least": (((low,), behind_rope), ((high,), ahead_rope)),
            "closed": tuple(product(((low,), (high,)), (ahead_rope, behind_rope))),
        }[rung])
    return tuple(sorted(found))


def on_rung(book, found, rung):
    """True if these told ropes are on the rung, by all choices."""
    found = set(found)
    return all(missing in found for given, missing in asks(book, rung) if found.issuperset(given))


@lru_cache(None)
def grown_told(book, some, rung):
    """The ropes, and what the rung asks with them, until it asks nothing more."""
    found = set(some)
    while True:
        more = {missing for given, missing in asks(book, rung) if found.issuperset(given)} - found
        if not more:
            return tuple(sorted(found))
        found |= more


def rises_in(book, turned, pattern):
    """The rises whose exchange is by a rope that the pattern tells."""
    found = told_ropes(book, pattern)
    return tuple(
        tie for tie in rises(book, turned)
        if any(rope[:2] == tie and rope in found for rope in reasons(book, flip(turned, tie))))


@lru_cache(None)
def last_ones(book, pattern, up):
    """For each sorting the ascending tuple of all ends, or tops, to which undoing, or redoing, leads."""
    found = {}
    for one in sorted(sortings(book), key=len, reverse=up):
        nexts = [flip(one, tie) for tie in (rises_in if up else falls_in)(book, one, pattern)]
        found[one] = tuple(sorted({last for other in nexts for last in found[other]})) if nexts else (one,)
    return found


def end_of(book, turned, pattern):
    """The one end, by all undoing."""
    (end,) = last_ones(book, pattern, False)[turned]
    return end


def top_of(book, turned, pattern):
    """The one top, by all redoing."""
    (top,) = last_ones(book, pattern, True)[turned]
    return top


def rung_patterns(draw, book, many=2):
    """Patterns on each rung and off each, told by few ropes and what is asked with them, besides those of each word."""
    yield from each_word(draw, book)
    every = ropes(book)
    for rung in RUNGS:
        for _ in range(many):
            some = tuple(sorted(draw.sample(every, min(draw.choice((1, 1, 2, 3)), len(every)))))
            yield ("ropes", grown_told(book, some, rung))
            yield ("not", ("ropes", grown_told(book, some, rung)))
    for _ in range(2 * many):
        yield ("ropes", tuple(sorted(draw.sample(every, draw.randrange(len(every) + 1)))))


def even_patterns(draw, book, many=2):
    """Those of them that are even."""
    return [one for one in rung_patterns(draw, book, many) if even(book, one)]


def is_book(value):
    if type(value) is not tuple or len(value) != 2:
        return False
    size, lists = value
    if not is_int(size) or size < 1 or type(lists) is not tuple:
        return False
    return all(
        type(things) is tuple and len(things) > 1 and all(is_below(size, x) for x in things)
        and all(a < b for a, b in zip(things, things[1:]))
        for things in lists
    )


def refused(call, *given):
    """What a call gives: ("gives", value), or the name of its error and its fields."""
    try:
        return ("gives", call(*given))
    except ValueError as error:
        return (type(error).__name__, *vars(error).values())


def told(*fields):
    return ("InvalidPaper", *fields)


# Values of no kind that any function asks, but for those that a test leaves out.
ODD = (
    None, True, False, -1, -7, 10 ** 40, -10 ** 40, 41, "", "0", "0 1", "lot", [], [0], [0, 1], [[0, 1]],
    (None,), (True,), (False,), (True, False), (0, True), (False, True), (0, "1"), (-1, 0), (0, 10 ** 40),
    (1, 0), (0, 0), (1, 1), (0, 1, 1), ((1, 0),), ((0, 1), (0, 1)), ((0, True),), ((False, True),),
    ((0, 1), None), ([0, 1],), ((0, 1, 2),), ((0, 2), (0, 1)), ((),), (((),),), ((((0,),),),),
    [(0, 1)], ((0, 1), [0, 2]), ("0", "1"), ((0, "1"),), (0, (1,)), ((0,), 1), (0, None),
)


def swaps(value):
    """The elements of the tuple or list, one pair of neighbours swapped."""
    for k in range(len(value) - 1):
        yield value[:k] + value[k + 1:k + 2] + value[k:k + 1] + value[k + 2:]


def changes(value):
    """Values with one thing changed, somewhere."""
    if isinstance(value, tuple):
        yield list(value)
        yield value + (0,)
        yield value + ((0, 1),)
        yield from swaps(value)
        for k, part in enumerate(value):
            yield value[:k] + value[k + 1:]
            yield value[:k] + value[k:k + 1] + value[k:]
            for other in changes(part):
                yield value[:k] + (other,) + value[k + 1:]
    elif is_int(value):
        yield from (value + 1, value - 1, value + 2, 0, 1, bool(value), None, str(value), 10 ** 40, -1, (value,))
    elif isinstance(value, str):
        yield from (value + "s", "", "ring", "gap", "loop", "rows", None, 0)
    else:
        yield from (0, (), "x")


def rebooled(value):
    """Values that are equal to this one, but hold True or False for a number."""
    if is_int(value):
        if value in (0, 1):
            yield bool(value)
    elif isinstance(value, tuple):
        for k, part in enumerate(value):
            for other in rebooled(part):
                yield value[:k] + (other,) + value[k + 1:]


def pairs_of(values):
    return list(product(values, repeat=2))
