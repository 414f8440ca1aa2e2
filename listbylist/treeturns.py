"""Search trees turned at two of their things."""
from listbylist.errors import need
from listbylist.kinds import is_number
from listbylist.searchtrees import own_order


def is_in_tree(tree, thing):
    """True if thing is a thing of the tree."""
    return is_number(thing) and thing in own_order(tree)


def part_at(tree, here):
    """The part of the tree whose root is here, a thing of it."""
    root, left, right = tree
    if here == root:
        return tree
    return part_at(left if here < root else right, here)


def with_part(tree, here, part):
    """The tree with this part in place of the one whose root is here, a thing of it."""
    root, left, right = tree
    if here == root:
        return part
    if here < root:
        return (root, with_part(left, here, part), right)
    return (root, left, with_part(right, here, part))


def tree_turned(tree, here, there):
    """The tree with there, which was the root of the right tree of here, in its place and here to its left."""
    need(is_in_tree(tree, here), "here")
    _, outer, right = part_at(tree, here)
    need(is_number(there) and len(right) > 0 and right[0] == there, "there")
    _, middle, last = right
    return with_part(tree, here, (there, (here, outer, middle), last))


def tree_turned_back(tree, here, there):
    """The tree with here, which was the root of the left tree of there, in its place and there to its right."""
    need(is_in_tree(tree, here), "here")
    need(is_in_tree(tree, there), "there")
    _, left, last = part_at(tree, there)
    need(len(left) > 0 and left[0] == here, "there")
    _, outer, middle = left
    return with_part(tree, there, (here, outer, (there, middle, last)))
