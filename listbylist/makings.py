"""What a sorting is the least common one of."""
from listbylist.errors import need
from listbylist.merging import least_common
from listbylist.reasons import reasons_of
from listbylist.showings import least_turned
from listbylist.sortkinds import are_sortings, is_sorting
from listbylist.stepping import need_both


def makes(book, sorting, sortings):
    """True if sorting is the least common one of sortings."""
    need(is_sorting(book, sorting), "sorting")
    return least_common(book, sortings) == sorting


def reason_sortings(book, sorting):
    """The ascending tuple of the least sortings that show its reasons."""
    return tuple(sorted([least_turned(book, rope) for rope in reasons_of(book, sorting)]))


def is_reason_lot(book, sorting, thing):
    """True if thing is just what reason_sortings returns."""
    found = reason_sortings(book, sorting)
    # Values that are equal need not be of the same kinds: True is no 1 here.
    return are_sortings(book, thing) and thing == found


def reasons_apart(book, sorting, other):
    """A pair of ascending tuples: the reasons that only sorting has, those that only other has."""
    need_both(book, sorting, other)
    mine, others = reasons_of(book, sorting), reasons_of(book, other)
    only = tuple([rope for rope in mine if rope not in others])
    return (only, tuple([rope for rope in others if rope not in mine]))
