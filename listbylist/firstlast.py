"""Each thing first and last, and whether this fits list by list."""
from listbylist.bookkinds import is_thing
from listbylist.books import ties_of
from listbylist.errors import need
from listbylist.listmerges import fits_lists


def first_last(book, here):
    """The two sortings with here ahead of all that is tied to it, and behind it, and all else as at the base."""
    need(is_thing(book, here), "here")
    first = tuple([tie for tie in ties_of(book) if tie[1] == here])
    return (first, tuple([tie for tie in ties_of(book) if tie[0] == here]))


def fits_first_last(book):
    """True if for each thing its two sortings fit list by list."""
    return all([fits_lists(book, first_last(book, here)) for here in range(book[0])])
