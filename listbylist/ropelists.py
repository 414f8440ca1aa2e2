"""All ropes of a book."""
from listbylist.books import between_in, ties_of
from listbylist.masks import near_masks


def lots_of(things):
    """All lots of some of the things."""
    lots = [()]
    for thing in things:
        lots = lots + [lot + (thing,) for lot in lots]
    return lots


def ropes_of(book):
    """The ascending tuple of all ropes."""
    near = near_masks(book)
    ropes = [(low, high, ahead) for low, high in ties_of(book) for ahead in lots_of(between_in(near, low, high))]
    return tuple(sorted(ropes))


def rope_count(book):
    """How many ropes there are."""
    near = near_masks(book)
    return sum([1 << len(between_in(near, low, high)) for low, high in ties_of(book)])
