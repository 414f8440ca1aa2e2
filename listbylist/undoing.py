"""Undoing falls whose reasons a pattern tells."""
from listbylist.bookkinds import is_tie
from listbylist.errors import need
from listbylist.exchanging import flipped
from listbylist.masks import leading_masks, near_masks
from listbylist.patternkinds import is_pattern
from listbylist.patternlots import tells
from listbylist.showing import open_ropes
from listbylist.sortkinds import is_sorting


def need_pattern(book, sorting, pattern):
    """Raise NotUsable unless these are a sorting and a pattern."""
    need(is_sorting(book, sorting), "sorting")
    need(is_pattern(book, pattern), "pattern")


def told_open(book, sorting, pattern, turned):
    """The falls, or, if turned is False, the rises by ropes that the pattern tells, ascending, without a check."""
    near = near_masks(book)
    ropes = open_ropes(near, leading_masks(book, sorting), turned)
    return tuple([rope[:2] for rope in ropes if tells(near, pattern, rope)])


def told_falls(book, sorting, pattern):
    """The falls of the sorting whose reasons the pattern tells, ascending, without a check of either."""
    return told_open(book, sorting, pattern, True)


def falls_in(book, sorting, pattern):
    """The falls of the sorting whose reasons the pattern tells, ascending."""
    need_pattern(book, sorting, pattern)
    return told_falls(book, sorting, pattern)


def is_end(book, sorting, pattern):
    """True if there is no such fall."""
    return len(falls_in(book, sorting, pattern)) == 0


def first_ways(book, sorting, pattern, turned):
    """The pair of the steps that exchange the first of told_open as long as there is one, and what is reached."""
    steps = []
    reached = sorting
    ties = told_open(book, reached, pattern, turned)
    while ties:
        steps.append(ties[0])
        reached = flipped(reached, ties[0])
        ties = told_open(book, reached, pattern, turned)
    return tuple(steps), reached


def first_steps(book, sorting, pattern):
    """The pair of the steps that exchange the first told fall as long as there is one, and the end reached."""
    return first_ways(book, sorting, pattern, True)


def end_in(book, sorting, pattern):
    """The end reached so, without a check of either."""
    return first_steps(book, sorting, pattern)[1]


def top_in(book, sorting, pattern):
    """What is reached by exchanging the first told rise as long as there is one, without a check of either."""
    return first_ways(book, sorting, pattern, False)[1]


def undo_first(book, sorting, pattern):
    """The tuple of these ties: the first such fall is exchanged, as long as there is one."""
    need_pattern(book, sorting, pattern)
    return first_steps(book, sorting, pattern)[0]


def end_first(book, sorting, pattern):
    """The end reached so."""
    need_pattern(book, sorting, pattern)
    return end_in(book, sorting, pattern)


def undone_by(book, sorting, pattern, steps):
    """The pair of the sorting reached by these steps and the place of the first that undoes nothing, or None."""
    reached = sorting
    for k, tie in enumerate(steps):
        # A value may be equal to a tie and still be none: True is no 1 here.
        if not is_tie(book, tie) or tie not in told_falls(book, reached, pattern):
            return reached, k
        reached = flipped(reached, tie)
    return reached, None


def undone(book, sorting, pattern, steps):
    """The sorting behind exchanging the ties of the tuple steps in sequence."""
    need_pattern(book, sorting, pattern)
    need(isinstance(steps, tuple), "steps")
    reached, wrong = undone_by(book, sorting, pattern, steps)
    need(wrong is None, "steps")
    return reached
