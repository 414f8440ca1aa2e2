"""Sortings by the search trees of their orders."""
from listbylist.endcounts import ends_count
from listbylist.errors import NotUsable, Unglued, need
from listbylist.fulllists import full_lists
from listbylist.listorders import orders_of, sorting_told
from listbylist.searchtrees import cut_tree, grown_tree, is_tree, own_order


def trees_of(book, sorting):
    """The tuple of the search trees of the orders of the full lists."""
    return tuple([grown_tree(order) for order in orders_of(book, sorting)])


def check_trees(lists, trees):
    """Raise NotUsable unless these are trees of just the things of the full lists."""
    need(isinstance(trees, tuple) and len(trees) == len(lists), "trees")
    for k, things in enumerate(lists):
        if not is_tree(trees[k]) or sorted(own_order(trees[k])) != list(things):
            raise NotUsable("trees", k)


def check_glued(lists, trees):
    """Raise Unglued for the first pair of places whose trees are unlike on what their lists share."""
    for place in range(len(lists)):
        for other in range(place + 1, len(lists)):
            shared = [thing for thing in lists[place] if thing in lists[other]]
            if cut_tree(trees[place], shared) != cut_tree(trees[other], shared):
                raise Unglued(place, other)


def sorting_by_trees(book, trees):
    """The end by ("ahead", 1) with these trees."""
    lists = full_lists(book)
    check_trees(lists, trees)
    check_glued(lists, trees)
    # An own order is an end by ("ahead", 1), and so is what of it is in a stretch, so these agree on what is shared.
    return sorting_told(book, tuple([own_order(tree) for tree in trees]))


def tree_count(book):
    """How many tuples of trees fit together."""
    # They are one to one with the ends by ("ahead", 1).
    return ends_count(book, ("ahead", 1))
