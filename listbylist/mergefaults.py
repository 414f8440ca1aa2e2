"""Sortings with which ends do not go along when they are merged."""
from listbylist.errors import InvalidPaper, need
from listbylist.merging import greatest_common, least_common
from listbylist.orderfaults import check_sortings, faulty_pair, least_showings_of
from listbylist.patternkinds import is_pattern
from listbylist.rungs import fault_of, need_on
from listbylist.undoing import end_in


def need_merging(book, pattern, rung):
    """Raise NotUsable, or OffRung, unless these are an even pattern and "greatest" or "least"."""
    need(is_pattern(book, pattern), "pattern")
    need(isinstance(rung, str) and rung in ("greatest", "least"), "rung")
    need_on(book, pattern, "even")


def merge_fault(book, pattern, rung):
    """None if the pattern is on the rung; else any two sortings whose merge ends unlike the merge of their ends."""
    need_merging(book, pattern, rung)
    fault = fault_of(book, pattern, rung)
    if fault is None:
        return None
    # By what "greatest" lacks the lesser sorting is the merge and its own end. By what "least" lacks undoing the
    # merge keeps the tie of what is missing, which no row of ties that the ends turn gives.
    return faulty_pair(book, fault) if rung == "greatest" else least_showings_of(book, fault)


def merged_on(book, rung, sortings):
    """The greatest common one of the sortings for "greatest", the least common one for "least"."""
    return greatest_common(book, sortings) if rung == "greatest" else least_common(book, sortings)


def lets_merge(book, pattern, rung, thing):
    """A checker of such pairs: the end of the merge and the end of the merge of the ends."""
    need_merging(book, pattern, rung)
    check_sortings(book, thing)
    ends = (end_in(book, thing[0], pattern), end_in(book, thing[1], pattern))
    last = end_in(book, merged_on(book, rung, thing), pattern)
    other = end_in(book, merged_on(book, rung, ends), pattern)
    if last == other:
        raise InvalidPaper("same", -1)
    return (last, other)
