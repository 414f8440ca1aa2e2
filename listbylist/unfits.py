"""Pairs of sortings that do not fit list by list."""
from listbylist.errors import InvalidPaper
from listbylist.firstlast import first_last
from listbylist.joints import joint_of, own_hole
from listbylist.listmerges import agree, list_orders
from listbylist.listorders import quarrel_in
from listbylist.sortkinds import is_sorting
from listbylist.sortlines import fitted
from listbylist.taking import ring_of


def falling_places(ring):
    """The places in the ring of the things that are less than the one before them."""
    return [k for k in range(len(ring)) if ring[k] < ring[k - 1]]


def ring_pair(book, ring):
    """Two sortings: some one turns each tie that falls along the ring, none one that rises; two ties fall or more."""
    rest = tuple([thing for thing in range(book[0]) if thing not in ring])
    # Cut at one fall the ring is a line. What is not of the ring comes last, so it turns no tie of a lesser
    # thing of the ring, and no row that leaves the ring has only turned steps.
    first, second = falling_places(ring)[:2]
    return (fitted(book, ring[first:] + ring[:first] + rest), fitted(book, ring[second:] + ring[:second] + rest))


def bare_ring_pair(book, ring):
    """Two sortings that, merged list by list, lead round a bare ring."""
    # One way round or the other at least two of its four ties, or more, fall.
    return ring_pair(book, ring if len(falling_places(ring)) >= 2 else ring[::-1])


def unfit_pair(book):
    """None if the book is well jointed, else any pair of sortings that does not fit list by list."""
    paper = joint_of(book)
    if paper is None:
        return None
    if paper[0] == "ring":
        return bare_ring_pair(book, paper[1])
    # The list with inner turns the tie by a row over it, the list with outer knows no reason to.
    return first_last(book, paper[2])


def lets_unfit(book, thing):
    """A checker of such pairs: whether the orders quarrel or lead in a round."""
    if not isinstance(thing, tuple) or len(thing) != 2:
        raise InvalidPaper("shape", -1)
    for k, sorting in enumerate(thing):
        if not is_sorting(book, sorting):
            raise InvalidPaper("sorting", k)
    orders = list_orders(book, thing)
    if agree(book, orders):
        raise InvalidPaper("fits", -1)
    return "round" if quarrel_in(orders) is None else "quarrel"


def unfit_own(book):
    """None if the book is well jointed and own_hole is None, else any pair that does not fit in the own lists."""
    hole = own_hole(book)
    if hole is not None:
        return first_last(book, hole[2])
    # Without a hole all full lists are own lists, and there is no gap.
    ring = ring_of(book)
    return None if ring is None else bare_ring_pair(book, ring)
