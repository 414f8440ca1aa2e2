"""Which sortings may be made the base."""
from listbylist.errors import InvalidPaper, need
from listbylist.fulllists import full_lists
from listbylist.kinds import is_below
from listbylist.listorders import orders_in, orders_of
from listbylist.sortkinds import is_sorting


def stands_between(order, things, inner):
    """True if inner, of the order, stands between two that are of these things."""
    spot = order.index(inner)
    ahead = [thing for thing in order[:spot] if thing in things]
    return len(ahead) > 0 and any([thing in things for thing in order[spot + 1:]])


def gap_in(order, things):
    """The first of the order that is not of these things and stands between two that are, or None."""
    found = [inner for inner in order if inner not in things and stands_between(order, things, inner)]
    return found[0] if found else None


def first_base_gap(orders):
    """What base_gap returns, told the orders of the full lists."""
    for place, order in enumerate(orders):
        for other, things in enumerate(orders):
            inner = gap_in(order, things)
            if inner is not None:
                return (place, other, inner)
    return None


def is_base(book, sorting):
    """True if what any two full lists share stands in one stretch of the order of each."""
    return first_base_gap(orders_of(book, sorting)) is None


def base_gap(book, sorting):
    """None if this is so, else any (place, other, inner) that shows where it is not."""
    return first_base_gap(orders_of(book, sorting))


def lets_base_gap(book, sorting, thing):
    """A checker of such triples: inner."""
    need(is_sorting(book, sorting), "sorting")
    if not isinstance(thing, tuple) or len(thing) != 3:
        raise InvalidPaper("shape", -1)
    lists = full_lists(book)
    place, other, inner = thing
    if not is_below(len(lists), place):
        raise InvalidPaper("place", 0)
    if not is_below(len(lists), other) or other == place:
        raise InvalidPaper("place", 1)
    if not is_below(book[0], inner) or inner not in lists[place] or inner in lists[other]:
        raise InvalidPaper("inner", -1)
    if not stands_between(orders_in(book, sorting, lists)[place], lists[other], inner):
        raise InvalidPaper("between", -1)
    return inner
