"""Which values are books, ties and rows."""
from listbylist.kinds import is_below, is_integer, is_lot


def is_listed(size, thing):
    """True if thing can be a list of a book of this size."""
    return is_lot(size, thing) and len(thing) >= 2


def is_book(thing):
    """True if thing is a book."""
    if not isinstance(thing, tuple) or len(thing) != 2:
        return False
    size, lists = thing
    if not is_integer(size) or size < 1 or not isinstance(lists, tuple):
        return False
    return all([is_listed(size, things) for things in lists])


def are_tied(book, here, there):
    """True if some list holds both of two unlike things."""
    return any([here in things and there in things for things in book[1]])


def is_thing(book, thing):
    """True if thing is a thing of the book."""
    return is_below(book[0], thing)


def is_tie(book, thing):
    """True if thing is a tie."""
    return is_lot(book[0], thing) and len(thing) == 2 and are_tied(book, thing[0], thing[1])


def is_row(book, thing):
    """True if thing is a row."""
    if not is_lot(book[0], thing) or len(thing) < 2:
        return False
    return all([are_tied(book, thing[k - 1], thing[k]) for k in range(1, len(thing))])
