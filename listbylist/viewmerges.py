"""Ends by even patterns, and merges of them."""
from listbylist.errors import need
from listbylist.merging import greatest_common, least_common
from listbylist.orderfaults import need_even
from listbylist.sortkinds import are_sortings, is_sorting
from listbylist.undoing import end_in


def ends_in(book, sortings, pattern):
    """The tuple of the ends of the sortings, without a check of these."""
    return tuple([end_in(book, sorting, pattern) for sorting in sortings])


def least_end(book, sortings, pattern):
    """What least_in returns, without a check of the parameters."""
    return end_in(book, least_common(book, ends_in(book, sortings, pattern)), pattern)


def greatest_end(book, sortings, pattern):
    """What greatest_in returns, without a check of the parameters."""
    return end_in(book, greatest_common(book, ends_in(book, sortings, pattern)), pattern)


def even_end(book, sorting, pattern):
    """The end of the sorting."""
    need(is_sorting(book, sorting), "sorting")
    need_even(book, pattern)
    return end_in(book, sorting, pattern)


def least_in(book, sortings, pattern):
    """The end of the least common one of the ends of the sortings."""
    need(are_sortings(book, sortings), "sortings")
    need_even(book, pattern)
    return least_end(book, sortings, pattern)


def greatest_in(book, sortings, pattern):
    """The end of the greatest common one of the ends of the sortings."""
    need(are_sortings(book, sortings), "sortings")
    need_even(book, pattern)
    return greatest_end(book, sortings, pattern)
