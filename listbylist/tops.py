"""Sortings alike by a pattern, and their tops."""
from listbylist.alls import are_turned, sortings_in
from listbylist.errors import need
from listbylist.orderfaults import need_even
from listbylist.patternkinds import is_pattern
from listbylist.sortkinds import is_sorting
from listbylist.stepping import need_both
from listbylist.undoing import end_in, told_open, top_in


def are_alike(book, sorting, other, pattern):
    """True if two sortings have the same end, without a check of the parameters."""
    return end_in(book, sorting, pattern) == end_in(book, other, pattern)


def alike_by(book, sorting, other, pattern):
    """True if the two are alike by the pattern."""
    need_both(book, sorting, other)
    need_even(book, pattern)
    return are_alike(book, sorting, other, pattern)


def is_top(book, sorting, pattern):
    """True if the sorting is a top."""
    need(is_sorting(book, sorting), "sorting")
    need(is_pattern(book, pattern), "pattern")
    return len(told_open(book, sorting, pattern, False)) == 0


def top_of(book, sorting, pattern):
    """The top of the sorting."""
    need(is_sorting(book, sorting), "sorting")
    need_even(book, pattern)
    return top_in(book, sorting, pattern)


def alike_sortings(book, sorting, pattern):
    """All sortings alike to this one, itself among them, ascending."""
    need(is_sorting(book, sorting), "sorting")
    need_even(book, pattern)
    end, top = end_in(book, sorting, pattern), top_in(book, sorting, pattern)
    # They are those between their end and their top.
    return tuple([one for one in sortings_in(book) if are_turned(end, one) and are_turned(one, top)])
