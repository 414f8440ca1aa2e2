"""Well jointed or not, and why not."""
from listbylist.bookkinds import are_tied, is_book, is_thing, is_tie
from listbylist.books import between_in, between_of, ties_of
from listbylist.errors import InvalidPaper, Unjointed, need
from listbylist.fulllists import full_lists, shared_by
from listbylist.masks import near_masks, things_of
from listbylist.taking import is_bare_ring, ring_of


def is_jointed(book):
    """True if the book is well jointed."""
    return joint_of(book) is None


def in_one_stretch(order, lot):
    """True if what the order has of the lot, possibly nothing, stands in one stretch of it."""
    spots = [k for k, thing in enumerate(order) if thing in lot]
    return not spots or spots[-1] - spots[0] == len(spots) - 1


def one_stretch(book, place, other):
    """True if the things that both full lists hold stand in one stretch of the one at place."""
    shared = shared_by(book, place, other)
    return in_one_stretch(full_lists(book)[place], shared)


def gap_at(near, tie):
    """The first pair (inner, outer) of a gap at this tie, or None."""
    low, high = tie
    for inner in between_in(near, low, high):
        outers = near[low] & near[high] & ~near[inner] & ~(1 << inner)
        if outers:
            return (inner, things_of(outers)[0])
    return None


def joint_of(book):
    """None if the book is well jointed, else any paper."""
    ring = ring_of(book)
    if ring is not None:
        return ("ring", ring)
    near = near_masks(book)
    for tie in ties_of(book):
        gap = gap_at(near, tie)
        if gap is not None:
            return ("gap", tie) + gap
    return None


def need_jointed(book):
    """Raise NotUsable, or Unjointed, unless this is a well jointed book."""
    need(is_book(book), "book")
    paper = joint_of(book)
    if paper is not None:
        raise Unjointed(paper)


def begins(thing, word, many):
    """True if thing is a tuple of so many elements that begins with the word."""
    return isinstance(thing, tuple) and len(thing) == many and isinstance(thing[0], str) and thing[0] == word


def check_gap(book, tie, inner, outer):
    """Raise InvalidPaper unless these are a gap."""
    if not is_tie(book, tie):
        raise InvalidPaper("tie", -1)
    low, high = tie
    if not is_thing(book, inner) or inner not in between_of(book, tie):
        raise InvalidPaper("inner", -1)
    if not is_thing(book, outer) or outer in tie:
        raise InvalidPaper("outer", -1)
    if not are_tied(book, low, outer) or not are_tied(book, high, outer):
        raise InvalidPaper("outer", -1)
    if outer == inner or are_tied(book, inner, outer):
        raise InvalidPaper("tied", -1)


def lets_joint(book, thing):
    """A checker: the first element."""
    if begins(thing, "ring", 2):
        if not is_bare_ring(book, thing[1]):
            raise InvalidPaper("ring", -1)
        return "ring"
    if begins(thing, "gap", 4):
        check_gap(book, thing[1], thing[2], thing[3])
        return "gap"
    raise InvalidPaper("shape", -1)


def own_hole(book):
    """None, or the first (listed, low, inner, high): inner is between, but not of the own list."""
    near = near_masks(book)
    holes = [
        (listed, low, inner, high)
        for listed, things in enumerate(book[1])
        for low in things
        for high in things
        if low < high
        for inner in between_in(near, low, high)
        if inner not in things
    ]
    return min(holes) if holes else None
