"""Books, their ties, and what is near or between."""
from listbylist.bookkinds import are_tied, is_thing, is_tie
from listbylist.errors import NotUsable, need
from listbylist.kinds import are_unlike_below, is_integer
from listbylist.masks import near_masks, things_of


def book_of(size, *lists):
    """The book of these lists, each written ascending."""
    need(is_integer(size) and size >= 1, "size")
    for k, things in enumerate(lists):
        if not are_unlike_below(size, things) or len(things) < 2:
            raise NotUsable("lists", k)
    return (size, tuple([tuple(sorted(things)) for things in lists]))


def ties_of(book):
    """All ties, ascending."""
    near = near_masks(book)
    return tuple([(low, high) for low in range(book[0]) for high in things_of(near[low]) if low < high])


def is_tied(book, here, there):
    """True if here and there are tied."""
    need(is_thing(book, here), "here")
    need(is_thing(book, there) and there != here, "there")
    return are_tied(book, here, there)


def near_of(book, here):
    """The lot of the things tied to here."""
    need(is_thing(book, here), "here")
    return things_of(near_masks(book)[here])


def between_in(near, low, high):
    """The lot of the things between low and high, told which things are near."""
    return tuple([thing for thing in things_of(near[low] & near[high]) if low < thing and thing < high])


def between_of(book, tie):
    """The lot of things between."""
    need(is_tie(book, tie), "tie")
    return between_in(near_masks(book), tie[0], tie[1])
