"""The sortings between two, and what several agree on."""
from listbylist.alls import are_turned, sortings_in
from listbylist.books import ties_of
from listbylist.errors import need
from listbylist.sortkinds import are_sortings, is_sorting


def between_sortings(book, sorting, other):
    """A generator of the sortings above sorting and beneath other, ascending."""
    need(is_sorting(book, sorting), "sorting")
    need(is_sorting(book, other) and are_turned(sorting, other), "other")
    for one in sortings_in(book):
        if are_turned(sorting, one) and are_turned(one, other):
            yield one


def agreed_ties(book, sortings):
    """The ascending tuple of the ties that all of the sortings turn or none turns."""
    need(are_sortings(book, sortings), "sortings")
    turning = [(tie, len([one for one in sortings if tie in one])) for tie in ties_of(book)]
    return tuple([tie for tie, many in turning if many in (0, len(sortings))])
