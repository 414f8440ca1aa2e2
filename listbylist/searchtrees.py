"""Search trees of orders."""
from listbylist.errors import need
from listbylist.kinds import is_number, is_rising


def is_tree_within(thing, least, most):
    """True if thing is a tree of numbers greater than least and, unless most is None, less than most."""
    if not isinstance(thing, tuple) or len(thing) not in (0, 3):
        return False
    if len(thing) == 0:
        return True
    root, left, right = thing
    if not is_number(root) or root <= least or (most is not None and root >= most):
        return False
    return is_tree_within(left, least, root) and is_tree_within(right, root, most)


def is_tree(thing):
    """True if thing is a tree."""
    return is_tree_within(thing, -1, None)


def are_numbers(thing):
    """True if thing is a tuple of numbers."""
    return isinstance(thing, tuple) and all([is_number(one) for one in thing])


def grown_tree(order):
    """The tree_of of the order, without a check of it."""
    if not order:
        return ()
    root = order[0]
    left = grown_tree(tuple([thing for thing in order if thing < root]))
    return (root, left, grown_tree(tuple([thing for thing in order if thing > root])))


def tree_of(order):
    """The tree whose root is the first of the order; its trees are those of the lesser and of the greater ones."""
    need(are_numbers(order) and len(set(order)) == len(order), "order")
    return grown_tree(order)


def own_order(tree):
    """The root, the own order of the left tree, that of the right tree."""
    if not tree:
        return ()
    root, left, right = tree
    return (root,) + own_order(left) + own_order(right)


def cut_tree(tree, lot):
    """The tree_cut of the tree, without a check of the lot."""
    return grown_tree(tuple([thing for thing in own_order(tree) if thing in lot]))


def tree_cut(tree, lot):
    """The tree of those things of own_order that are in the lot."""
    need(are_numbers(lot) and is_rising(lot), "lot")
    return cut_tree(tree, lot)
