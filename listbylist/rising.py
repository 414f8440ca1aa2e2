"""The rise reasons of a sorting."""
from listbylist.books import ties_of
from listbylist.closures import closed, kept_by_some
from listbylist.errors import need
from listbylist.masks import leading_masks, near_masks
from listbylist.reasons import need_uncrossed
from listbylist.showing import open_ropes
from listbylist.showings import most_turned
from listbylist.sortkinds import is_sorting


def rise_reasons(book, sorting):
    """The rise reasons of the sorting: a rope for each rise, ascending."""
    need(is_sorting(book, sorting), "sorting")
    return open_ropes(near_masks(book), leading_masks(book, sorting), False)


def sorting_by_rises(book, ropes):
    """The sorting whose rise reasons are just these ropes."""
    need_uncrossed(book, ropes)
    # It is the greatest common one of the greatest sortings that rise by them.
    open_to_keep = closed(book, kept_by_some(book, [most_turned(book, rope) for rope in ropes]))
    return tuple([tie for tie in ties_of(book) if tie not in open_to_keep])
