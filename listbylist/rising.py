"""The rise reasons of a sorting."""
from listbylist.books import ties_of
from listbylist.closures import closed, kept_by_some
from listbylist.masks import leading_masks, near_masks
from listbylist.opens import rises_of
from listbylist.reasons import need_uncrossed
from listbylist.showing import ahead_in
from listbylist.showings import most_turned


def rise_reasons(book, sorting):
    """The rise reasons of the sorting: a rope for each rise, ascending."""
    rises = rises_of(book, sorting)
    near, out = near_masks(book), leading_masks(book, sorting)
    return tuple([(low, high, ahead_in(near, out, low, high)) for low, high in rises])


def sorting_by_rises(book, ropes):
    """The sorting whose rise reasons are just these ropes."""
    need_uncrossed(book, ropes)
    # It is the greatest common one of the greatest sortings that rise by them.
    open_to_keep = closed(book, kept_by_some(book, [most_turned(book, rope) for rope in ropes]))
    return tuple([tie for tie in ties_of(book) if tie not in open_to_keep])
