"""The reasons of a sorting."""
from listbylist.closures import closed, turned_by_some
from listbylist.crossings import first_crossed
from listbylist.errors import Crossed, need
from listbylist.masks import leading_masks, near_masks
from listbylist.ropekinds import is_ropes
from listbylist.showing import open_ropes
from listbylist.showings import least_turned
from listbylist.sortkinds import is_sorting


def reasons_of(book, sorting):
    """The reasons of the sorting: the ropes that it shows for its falls, ascending."""
    need(is_sorting(book, sorting), "sorting")
    return open_ropes(near_masks(book), leading_masks(book, sorting), True)


def need_uncrossed(book, ropes):
    """Raise NotUsable, or Crossed, unless these are ropes of which no two cross."""
    need(is_ropes(book, ropes), "ropes")
    pair = first_crossed(book, ropes)
    if pair is not None:
        raise Crossed(pair[0], pair[1])


def sorting_by_reasons(book, ropes):
    """The sorting whose reasons are just these ropes."""
    need_uncrossed(book, ropes)
    return closed(book, turned_by_some([least_turned(book, rope) for rope in ropes]))
