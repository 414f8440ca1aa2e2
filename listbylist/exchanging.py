"""Single exchanges, and things put first or last."""
from listbylist.bookkinds import is_thing, is_tie
from listbylist.errors import Blocked, need
from listbylist.books import ties_of
from listbylist.masks import detour, leading_masks
from listbylist.sortkinds import is_sorting


def flipped(sorting, tie):
    """The ties turned when this one is turned, or turned back if it is turned."""
    if tie in sorting:
        return tuple([other for other in sorting if other != tie])
    return tuple(sorted(sorting + (tie,)))


def stepped_by(book, sorting, tie):
    """The sorting with this tie exchanged, or Blocked, without a check of the parameters."""
    way = detour(leading_masks(book, sorting), tie)
    if way is not None:
        raise Blocked(way)
    return flipped(sorting, tie)


def exchanged(book, sorting, tie):
    """The sorting with this tie exchanged."""
    need(is_sorting(book, sorting), "sorting")
    need(is_tie(book, tie), "tie")
    return stepped_by(book, sorting, tie)


def put_at(book, sorting, here, side):
    """The sorting that turns the ties of here just if here is the end at this side, the others as before."""
    need(is_sorting(book, sorting), "sorting")
    need(is_thing(book, here), "here")
    return tuple([tie for tie in ties_of(book) if (tie[side] == here if here in tie else tie in sorting)])


def put_first(book, sorting, here):
    """The sorting at which here is ahead of all things tied to it and all other ties are as before."""
    return put_at(book, sorting, here, 1)


def put_last(book, sorting, here):
    """Likewise, here behind all things tied to it."""
    return put_at(book, sorting, here, 0)
