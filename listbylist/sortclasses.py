"""Sortings as objects."""
from listbylist.alls import is_beneath
from listbylist.bookkinds import is_book
from listbylist.errors import need
from listbylist.exchanging import exchanged
from listbylist.listorders import orders_of
from listbylist.opens import falls_of, rises_of
from listbylist.sortlines import line_of, sorting_of
from listbylist.stepping import unlike_ties


class Sorting:
    """The sorting of a book that a line fits."""

    def __init__(self, book, line):
        need(is_book(book), "book")
        self._book = book
        self._sorting = sorting_of(book, line)

    def __eq__(self, other):
        return isinstance(other, Sorting) and self._book == other._book and self._sorting == other._sorting

    def falls(self):
        """The falls, an ascending tuple."""
        return falls_of(self._book, self._sorting)

    def rises(self):
        """The rises, likewise."""
        return rises_of(self._book, self._sorting)

    def orders(self):
        """A tuple of the orders of the full lists."""
        return orders_of(self._book, self._sorting)

    def told(self):
        """The pair (book, sorting)."""
        return (self._book, self._sorting)

    def moved(self, tie):
        """A new object, the tie exchanged."""
        book = self._book
        return Sorting(book, line_of(book, exchanged(book, self._sorting, tie)))

    def apart(self, other):
        """How many exchanges, as few as can be, lead to other."""
        need(isinstance(other, Sorting) and other._book == self._book, "other")
        return len(unlike_ties(self._sorting, other._sorting))

    def beneath(self, other):
        """True if this is beneath other."""
        need(isinstance(other, Sorting) and other._book == self._book, "other")
        return is_beneath(self._book, self._sorting, other._sorting)
