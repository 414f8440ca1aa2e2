"""Books as objects."""
from listbylist.bookchanges import beside, kept_to, with_list
from listbylist.books import book_of, ties_of
from listbylist.errors import need
from listbylist.fulllists import full_lists
from listbylist.joints import is_jointed


class Book:
    """A book; its length is how many own lists it has."""

    def __init__(self, size, *lists):
        self._book = book_of(size, *lists)

    def __len__(self):
        return len(self._book[1])

    def __eq__(self, other):
        return isinstance(other, Book) and self._book == other._book

    def __add__(self, other):
        need(isinstance(other, Book), "other")
        size, lists = beside(self._book, other._book)
        return Book(size, *lists)

    def ties(self):
        """All ties, ascending."""
        return ties_of(self._book)

    def full(self):
        """All full lists, ascending."""
        return full_lists(self._book)

    def jointed(self):
        """True if the book is well jointed."""
        return is_jointed(self._book)

    def kept(self, lot):
        """The Book kept to the lot."""
        size, lists = kept_to(self._book, lot)
        return Book(size, *lists)

    def grown(self, things):
        """The Book with one list more."""
        size, lists = with_list(self._book, things)
        return Book(size, *lists)

    def told(self):
        """The pair (size, lists)."""
        return self._book
