"""The ends to which undoing leads."""
from listbylist.alls import sortings_in
from listbylist.errors import need
from listbylist.exchanging import flipped
from listbylist.patternkinds import is_pattern
from listbylist.reasons import reasons_of
from listbylist.ropelists import ropes_of
from listbylist.showings import least_turned
from listbylist.sortkinds import are_sortings
from listbylist.undoing import need_pattern, told_falls


def ends_from(book, sorting, pattern):
    """All ends to which undoing from the sorting leads, ascending."""
    need_pattern(book, sorting, pattern)
    newest = [sorting]
    ends = []
    # Each step turns one tie back, so no sorting is reached both by fewer and by more steps.
    while newest:
        reached = []
        for one in newest:
            falls = told_falls(book, one, pattern)
            if not falls:
                ends.append(one)
            reached.extend([flipped(one, tie) for tie in falls])
        newest = sorted(set(reached))
    return tuple(sorted(ends))


def all_ends(book, pattern):
    """All sortings that are ends, ascending."""
    need(is_pattern(book, pattern), "pattern")
    return tuple([sorting for sorting in sortings_in(book) if not told_falls(book, sorting, pattern)])


def lots_outside(book, pattern):
    """The ascending tuple of all tuples of ropes that the pattern does not tell and no two of which cross."""
    # They are the reasons of the ends.
    return tuple(sorted([reasons_of(book, end) for end in all_ends(book, pattern)]))


def told_back(book, sortings):
    """The ropes for which the least sorting that shows them is not among the sortings, ascending."""
    need(are_sortings(book, sortings), "sortings")
    return tuple([rope for rope in ropes_of(book) if least_turned(book, rope) not in sortings])
