"""Which ropes cross, and why."""
from listbylist.bookkinds import is_thing
from listbylist.errors import InvalidPaper, need
from listbylist.joints import begins
from listbylist.masks import near_masks
from listbylist.ropekinds import behind_in, is_rope, is_ropes


def ranks_of(near, rope):
    """For each thing of the rope where it puts it: 0 ahead, 1 the high, 2 the low, 3 behind."""
    low, high, ahead = rope
    ranks = {thing: 0 for thing in ahead}
    ranks[high] = 1
    ranks[low] = 2
    for thing in behind_in(near, rope):
        ranks[thing] = 3
    return ranks


def against_in(mine, others):
    """The first two things (x, y), told both ropes' ranks, that the one puts so and the other puts y, x; or None."""
    both = [thing for thing in sorted(mine) if thing in others]
    found = [(x, y) for x in both for y in both if mine[x] < mine[y] and others[y] < others[x]]
    return found[0] if found else None


def amid_in(ranks, low, high):
    """The things that a rope, told by its ranks, puts behind high and ahead of low."""
    if low not in ranks or high not in ranks:
        return []
    return [thing for thing in sorted(ranks) if ranks[high] < ranks[thing] and ranks[thing] < ranks[low]]


def all_amid(mine, others, rope, other):
    """The things that one of the two ropes puts amid the ends of the other one."""
    return amid_in(mine, other[0], other[1]) + amid_in(others, rope[0], rope[1])


def crossing_in(near, rope, other):
    """None if the two do not cross, else any crossing, told which things are near."""
    mine, others = ranks_of(near, rope), ranks_of(near, other)
    against = against_in(mine, others)
    if against is not None:
        return ("against",) + against
    amid = all_amid(mine, others, rope, other)
    return ("amid", amid[0]) if amid else None


def need_ropes(book, rope, other):
    """Raise NotUsable unless both are ropes."""
    need(is_rope(book, rope), "rope")
    need(is_rope(book, other), "other")


def crossing_of(book, rope, other):
    """None if the two do not cross, else any of ("against", x, y) and ("amid", z) that shows it."""
    need_ropes(book, rope, other)
    return crossing_in(near_masks(book), rope, other)


def first_crossed(book, ropes):
    """The first pair of two of the ropes, which are ascending, that cross; None if none do."""
    near = near_masks(book)
    for k, rope in enumerate(ropes):
        for other in ropes[k + 1:]:
            if crossing_in(near, rope, other) is not None:
                return (rope, other)
    return None


def crossed_pair(book, ropes):
    """The first pair, as Python sorts, of two of the ropes that cross; None if none do."""
    need(is_ropes(book, ropes), "ropes")
    return first_crossed(book, ropes)


def are_against(mine, others, x, y):
    """True if both ropes, told by their ranks, hold x and y, the one x ahead, the other y ahead."""
    if x not in mine or x not in others or y not in mine or y not in others:
        return False
    return mine[x] < mine[y] and others[y] < others[x]


def lets_crossing(book, rope, other, thing):
    """A checker: the first element."""
    need_ropes(book, rope, other)
    near = near_masks(book)
    mine, others = ranks_of(near, rope), ranks_of(near, other)
    if begins(thing, "against", 3):
        x, y = thing[1:]
        if not is_thing(book, x) or not is_thing(book, y) or not are_against(mine, others, x, y):
            raise InvalidPaper("against", -1)
        return "against"
    if begins(thing, "amid", 2):
        if not is_thing(book, thing[1]) or thing[1] not in all_amid(mine, others, rope, other):
            raise InvalidPaper("amid", -1)
        return "amid"
    raise InvalidPaper("shape", -1)
