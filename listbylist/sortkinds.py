"""Which values are sortings, and ties of a book."""
from listbylist.bookkinds import is_tie
from listbylist.kinds import is_rising
from listbylist.masks import leading_masks, round_in


def is_ties(book, thing):
    """True if thing is an ascending tuple of ties of the book."""
    return isinstance(thing, tuple) and all([is_tie(book, tie) for tie in thing]) and is_rising(thing)


def is_sorting(book, thing):
    """True if thing is a sorting of the book."""
    return is_ties(book, thing) and round_in(leading_masks(book, thing)) is None


def are_sortings(book, thing):
    """True if thing is a tuple of sortings of the book."""
    return isinstance(thing, tuple) and all([is_sorting(book, sorting) for sorting in thing])
