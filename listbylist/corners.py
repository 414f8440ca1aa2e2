"""Two falls of a sorting, and what is beneath them."""
from listbylist.bookkinds import is_tie
from listbylist.errors import need
from listbylist.exchanging import flipped
from listbylist.masks import leading_masks, near_masks
from listbylist.merging import greatest_common
from listbylist.opens import falls_of
from listbylist.showing import shown_at
from listbylist.stepping import steps_between, unlike_ties


def reached_by(sorting, steps):
    """The sortings reached by these exchanges one after the other."""
    found = [sorting]
    for tie in steps:
        found.append(flipped(found[-1], tie))
    return tuple(found[1:])


def corner_of(book, sorting, tie, other):
    """The sorting, down to what is beneath both of it with tie and with other exchanged, and up to the latter."""
    falls = falls_of(book, sorting)
    need(is_tie(book, tie) and tie in falls, "tie")
    need(is_tie(book, other) and other in falls and other != tie, "other")
    first, last = flipped(sorting, tie), flipped(sorting, other)
    lowest = greatest_common(book, (first, last))
    down = reached_by(first, steps_between(book, first, lowest))
    return (sorting, first) + down + reached_by(lowest, steps_between(book, lowest, last))


def exchange_rope(book, one, two):
    """The rope of the exchange that leads from one of these sortings to the other one."""
    tie = unlike_ties(one, two)[0]
    upper = one if tie in one else two
    return shown_at(near_masks(book), leading_masks(book, upper), tie)


def corner_ropes(book, sorting, tie, other):
    """The tuple of the ropes of these exchanges and of the one from the last to the first sorting."""
    corner = corner_of(book, sorting, tie, other)
    nexts = corner[1:] + corner[:1]
    return tuple([exchange_rope(book, one, nexts[k]) for k, one in enumerate(corner)])
