"""Pieces of ropes."""
from listbylist.bookkinds import is_tie
from listbylist.books import between_in
from listbylist.errors import need
from listbylist.masks import near_masks
from listbylist.ropekinds import is_rope, middle_in


def things_in(near, rope):
    """The lot of the things of the rope, told which things are near."""
    return rope[:1] + middle_in(near, rope) + rope[1:2]


def cut_in(near, rope, low, high):
    """The piece of the rope with these two things of it as its ends."""
    return (low, high, tuple([thing for thing in between_in(near, low, high) if thing in rope[2]]))


def is_cut(near, rope, other):
    """True if the first rope is a piece of the other one."""
    low, high, _ = rope
    if low < other[0] or other[1] < high:
        return False
    things = things_in(near, other)
    return low in things and high in things and cut_in(near, other, low, high) == rope


def is_piece(book, rope, other):
    """True if rope is a piece of the rope other."""
    need(is_rope(book, rope), "rope")
    need(is_rope(book, other), "other")
    return is_cut(near_masks(book), rope, other)


def cut_rope(book, rope, tie):
    """The piece of the rope whose ends are those of the tie."""
    need(is_rope(book, rope), "rope")
    near = near_masks(book)
    need(is_tie(book, tie) and all([thing in things_in(near, rope) for thing in tie]), "tie")
    return cut_in(near, rope, tie[0], tie[1])


def pieces_of(book, rope):
    """All pieces of the rope, ascending."""
    need(is_rope(book, rope), "rope")
    near = near_masks(book)
    things = things_in(near, rope)
    # In a well jointed book all things of a rope are tied to one another.
    pairs = [(low, high) for low in things for high in things if low < high]
    return tuple([cut_in(near, rope, low, high) for low, high in pairs])
