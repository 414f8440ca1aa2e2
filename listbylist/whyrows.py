"""Rows that show why a tie is turned or kept."""
from listbylist.bookkinds import is_tie
from listbylist.closures import kept_by_some, turned_by_some
from listbylist.errors import need
from listbylist.masks import step_masks, way_in
from listbylist.sortkinds import are_sortings


def need_merge(book, sortings, tie):
    """Raise NotUsable unless these are sortings and a tie."""
    need(are_sortings(book, sortings), "sortings")
    need(is_tie(book, tie), "tie")


def row_by(book, steps, tie):
    """A row from the low to the high of the tie with these ties as steps, or None."""
    # Such steps only rise, so a way along them is a row.
    return way_in(step_masks(book[0], steps), tie[0], tie[1])


def why_turned(book, sortings, tie):
    """Any row of the tie each of whose steps at least one of the sortings turns, or None."""
    need_merge(book, sortings, tie)
    return row_by(book, turned_by_some(sortings), tie)


def why_kept(book, sortings, tie):
    """Any row of the tie each of whose steps at least one of the sortings does not turn, or None."""
    need_merge(book, sortings, tie)
    return row_by(book, kept_by_some(book, sortings), tie)
