"""Least and greatest common sortings."""
from listbylist.books import ties_of
from listbylist.closures import closed, kept_by_some, turned_by_some
from listbylist.errors import InRound, need
from listbylist.masks import leading_masks, round_in
from listbylist.sortkinds import are_sortings


def checked(book, ties):
    """These ties, if they are a sorting."""
    things = round_in(leading_masks(book, ties))
    if things is not None:
        raise InRound(things)
    return ties


def least_common(book, sortings):
    """The least common one: the closure of all ties that at least one of the sortings turns."""
    need(are_sortings(book, sortings), "sortings")
    return checked(book, closed(book, turned_by_some(sortings)))


def greatest_common(book, sortings):
    """The greatest common one: the ties for which each row has a step that all of the sortings turn."""
    need(are_sortings(book, sortings), "sortings")
    # Each row has such a step exactly if none has only steps that some sorting does not turn.
    open_to_keep = closed(book, kept_by_some(book, sortings))
    return checked(book, tuple([tie for tie in ties_of(book) if tie not in open_to_keep]))
