"""Closures of ties under rows."""
from listbylist.books import ties_of
from listbylist.errors import need
from listbylist.masks import reach_masks, step_masks
from listbylist.sortkinds import is_ties


def closed(book, ties):
    """The ties from whose low to whose high a row leads with each step in ties, which are ties of the book."""
    reach = reach_masks(step_masks(book[0], ties))
    return tuple([(low, high) for low, high in ties_of(book) if reach[low] >> high & 1])


def closure_of(book, ties):
    """The ascending tuple of all ties from whose low to whose high a row leads with each step in ties."""
    need(is_ties(book, ties), "ties")
    return closed(book, ties)


def turned_by_some(sortings):
    """The ties that at least one of the sortings turns, ascending."""
    return tuple(sorted(set([tie for sorting in sortings for tie in sorting])))


def kept_by_some(book, sortings):
    """The ties that at least one of the sortings does not turn, ascending."""
    return tuple([tie for tie in ties_of(book) if not all([tie in sorting for sorting in sortings])])
