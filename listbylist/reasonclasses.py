"""Reasons of sortings as objects."""
from listbylist.errors import need
from listbylist.joints import need_jointed
from listbylist.merging import least_common
from listbylist.reasons import reasons_of
from listbylist.sortkinds import is_sorting
from listbylist.turning import turn_of


class Reasons:
    """A sorting of a well jointed book by its reasons; its length is how many there are."""

    def __init__(self, book, sorting):
        need_jointed(book)
        need(is_sorting(book, sorting), "sorting")
        self._book = book
        self._sorting = sorting
        self._ropes = reasons_of(book, sorting)

    def __len__(self):
        return len(self._ropes)

    def __eq__(self, other):
        return isinstance(other, Reasons) and self._book == other._book and self._sorting == other._sorting

    def ropes(self):
        """The reasons."""
        return self._ropes

    def turned_on(self):
        """The Reasons of the turn of the sorting."""
        return Reasons(self._book, turn_of(self._book, self._sorting))

    def merged(self, other):
        """The Reasons of the least common one of both sortings."""
        need(isinstance(other, Reasons) and other._book == self._book, "other")
        return Reasons(self._book, least_common(self._book, (self._sorting, other._sorting)))

    def told(self):
        """The pair (book, sorting)."""
        return (self._book, self._sorting)
