"""Sortings merged list by list."""
from listbylist.closures import closed, turned_by_some
from listbylist.errors import need
from listbylist.fulllists import full_lists
from listbylist.kinds import is_below
from listbylist.listorders import order_in, quarrel_in, round_by, sorting_told
from listbylist.masks import leading_masks
from listbylist.sortkinds import are_sortings


def merged_alone(book, things, ties):
    """The order of a list merged by itself, told which ties some sorting turns."""
    if len(things) == 1:
        return things
    alone = (book[0], (things,))
    turned = closed(alone, [(low, high) for low, high in ties if low in things and high in things])
    return order_in(leading_masks(alone, turned), things)


def merged_orders(book, lists, sortings):
    """The orders of these lists, each merged by itself."""
    ties = turned_by_some(sortings)
    return tuple([merged_alone(book, things, ties) for things in lists])


def agree(book, orders):
    """True if the orders, which put all ties, quarrel on none and lead in no round."""
    return quarrel_in(orders) is None and round_by(book, orders) is None


def list_order(book, place, sortings):
    """The order of the full list at place, merged by itself."""
    lists = full_lists(book)
    need(is_below(len(lists), place), "place")
    need(are_sortings(book, sortings), "sortings")
    return merged_alone(book, lists[place], turned_by_some(sortings))


def list_orders(book, sortings):
    """The tuple of these orders of all full lists, in sequence."""
    need(are_sortings(book, sortings), "sortings")
    return merged_orders(book, full_lists(book), sortings)


def fits_lists(book, sortings):
    """True if the orders of list_orders quarrel on no tie and all together lead in no round."""
    return agree(book, list_orders(book, sortings))


def merged_by_lists(book, sortings):
    """The sorting with the orders of list_orders."""
    return sorting_told(book, list_orders(book, sortings))


def own_merges(book, sortings):
    """A tuple with an order of each of the book's own lists, each merged by itself."""
    need(are_sortings(book, sortings), "sortings")
    return merged_orders(book, book[1], sortings)


def fits_own(book, sortings):
    """True if the orders of own_merges quarrel on no tie and all together lead in no round."""
    return agree(book, own_merges(book, sortings))
