"""Pairs of sortings whose least common one is another one when things are left out."""
from listbylist.bookchanges import kept_to
from listbylist.errors import InvalidPaper, need
from listbylist.firstlast import first_last
from listbylist.kinds import is_lot
from listbylist.leaving import first_hole
from listbylist.merging import least_common
from listbylist.orderfaults import check_sortings
from listbylist.sortturns import restricted


def need_some(book, lot):
    """Raise NotUsable unless this is a lot of the book that is not ()."""
    need(is_lot(book[0], lot) and len(lot) > 0, "lot")


def cut_pair(book, lot):
    """None if the lot has no hole, else any pair of sortings whose merge, restricted, is not that of the restricted."""
    need_some(book, lot)
    hole = first_hole(book, lot)
    # The merge turns the tie by a row over what is left out; restricted, the two are the base.
    return None if hole is None else first_last(book, hole[1])


def lets_cut(book, lot, thing):
    """A checker of such pairs: the restricted merge and the merge of the restricted."""
    need_some(book, lot)
    check_sortings(book, thing)
    one, other = thing
    whole = restricted(book, least_common(book, thing), lot)
    parts = (restricted(book, one, lot), restricted(book, other, lot))
    merged = least_common(kept_to(book, lot), parts)
    if whole == merged:
        raise InvalidPaper("same", -1)
    return (whole, merged)
