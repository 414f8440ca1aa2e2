"""What is lost when ties or things are left out."""
from listbylist.bookkinds import is_book, is_tie
from listbylist.books import between_in, ties_of
from listbylist.errors import need
from listbylist.kinds import is_lot
from listbylist.masks import near_masks


def are_ties_too(book, other):
    """True if other is a book of as many things each tie of which is a tie of the book."""
    return is_book(other) and other[0] == book[0] and all([is_tie(book, tie) for tie in ties_of(other)])


def loss_of(book, other):
    """None, or the first (low, inner, high) whose tie is of other, but not that of inner and low, or inner and high."""
    need(are_ties_too(book, other), "other")
    near, left = near_masks(book), near_masks(other)
    losses = [
        (low, inner, high)
        for low, high in ties_of(other)
        for inner in between_in(near, low, high)
        if not left[inner] >> low & left[inner] >> high & 1
    ]
    return min(losses) if losses else None


def holes_in(near, lot):
    """All (low, inner, high): two tied things of the lot and one between them that is not of it."""
    return [
        (low, inner, high)
        for low in lot
        for high in lot
        if low < high and near[low] >> high & 1
        for inner in between_in(near, low, high)
        if inner not in lot
    ]


def first_hole(book, lot):
    """What hole_of returns, without a check of the lot."""
    holes = holes_in(near_masks(book), lot)
    return min(holes) if holes else None


def hole_of(book, lot):
    """None, or the first (low, inner, high) of two tied things of the lot and one between that is not of it."""
    need(is_lot(book[0], lot), "lot")
    return first_hole(book, lot)


def filled(book, lot):
    """The least lot that holds the lot and has no hole."""
    need(is_lot(book[0], lot), "lot")
    near = near_masks(book)
    full = lot
    holes = holes_in(near, full)
    while holes:
        full = tuple(sorted(full + tuple(sorted(set([inner for _, inner, _ in holes])))))
        holes = holes_in(near, full)
    return full
