"""Orders of lists, and sortings by orders."""
from listbylist.errors import InRound, NotUsable, Quarrel, need
from listbylist.fulllists import full_lists
from listbylist.kinds import is_number
from listbylist.masks import leading_masks, round_in
from listbylist.sortkinds import is_sorting


def order_in(out, things):
    """The order of things of which each leads to all later ones, told what leads where."""
    ranks = [(len([other for other in things if out[other] >> thing & 1]), thing) for thing in things]
    return tuple([thing for _, thing in sorted(ranks)])


def orders_in(book, sorting, lists):
    """The orders of these lists at the sorting."""
    out = leading_masks(book, sorting)
    return tuple([order_in(out, things) for things in lists])


def orders_of(book, sorting):
    """A tuple of the orders of the full lists, in sequence."""
    need(is_sorting(book, sorting), "sorting")
    return orders_in(book, sorting, full_lists(book))


def own_orders(book, sorting):
    """Likewise of the book's own lists."""
    need(is_sorting(book, sorting), "sorting")
    return orders_in(book, sorting, book[1])


def told_ties(orders, turned):
    """The ties that some order puts turned, or, if turned is False, puts not turned, ascending."""
    ties = [
        (behind, ahead) if turned else (ahead, behind)
        for order in orders
        for k, behind in enumerate(order)
        for ahead in order[:k]
        if (ahead > behind) == turned
    ]
    return tuple(sorted(set(ties)))


def quarrel_in(orders):
    """The first tie, ascending, that two orders put unlike, or None."""
    kept = told_ties(orders, False)
    quarrels = [tie for tie in told_ties(orders, True) if tie in kept]
    return quarrels[0] if quarrels else None


def round_by(book, orders):
    """Things that lead in a round by orders that do not quarrel and put all ties, or None."""
    return round_in(leading_masks(book, told_ties(orders, True)))


def sorting_told(book, orders):
    """The sorting with these orders, which put all ties. Raises Quarrel, then InRound."""
    tie = quarrel_in(orders)
    if tie is not None:
        raise Quarrel(tie)
    things = round_by(book, orders)
    if things is not None:
        raise InRound(things)
    return told_ties(orders, True)


def is_order(things, thing):
    """True if thing is a tuple of just these things, each once."""
    if not isinstance(thing, tuple) or not all([is_number(one) for one in thing]):
        return False
    return sorted(thing) == list(things)


def sorting_by(book, orders):
    """The sorting at which the full lists have these orders."""
    lists = full_lists(book)
    need(isinstance(orders, tuple) and len(orders) == len(lists), "orders")
    for k, things in enumerate(lists):
        if not is_order(things, orders[k]):
            raise NotUsable("orders", k)
    return sorting_told(book, orders)
