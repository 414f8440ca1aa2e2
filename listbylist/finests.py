"""The ropes that lie between two sortings, and the ties with nothing between."""
from listbylist.books import between_in, ties_of
from listbylist.errors import need
from listbylist.exchanging import flipped
from listbylist.growing import grown_to
from listbylist.masks import leading_masks, near_masks
from listbylist.merging import greatest_common, least_common
from listbylist.rungs import is_rung
from listbylist.showing import open_ropes
from listbylist.sortkinds import is_sorting
from listbylist.stepping import need_both


def rises_to(book, sorting, other):
    """Pairs of a sorting and a rope by which it rises, one after the other, from sorting up to other above it."""
    near = near_masks(book)
    found = []
    reached = sorting
    # Of the ties on which two sortings beneath one another differ some one is always a rise.
    while reached != other:
        ropes = open_ropes(near, leading_masks(book, reached), False)
        rope = [one for one in ropes if one[:2] in other][0]
        found.append((reached, rope))
        reached = flipped(reached, rope[:2])
    return found


def rises_between(book, sorting, other):
    """Such pairs from the greatest to the least common one of the two sortings."""
    both = (sorting, other)
    return rises_to(book, greatest_common(book, both), least_common(book, both))


def ropes_between(book, sorting, other):
    """The ropes of these pairs, ascending."""
    return tuple(sorted([rope for _, rope in rises_between(book, sorting, other)]))


def step_ropes(book, sorting, other):
    """The ropes of any one sequence that only turns, from the greatest to the least common one, ascending."""
    need_both(book, sorting, other)
    return ropes_between(book, sorting, other)


def finest_alike(book, sorting, other, rung):
    """The least set with step_ropes that is on the rung, ascending."""
    need_both(book, sorting, other)
    need(is_rung(rung), "rung")
    return grown_to(book, ropes_between(book, sorting, other), rung)


def base_ties(book):
    """The ties with nothing between, ascending."""
    near = near_masks(book)
    return tuple([tie for tie in ties_of(book) if not between_in(near, tie[0], tie[1])])


def base_turned(book, sorting):
    """Those of base_ties that the sorting turns, ascending."""
    need(is_sorting(book, sorting), "sorting")
    return tuple([tie for tie in base_ties(book) if tie in sorting])
