"""Ends of a book as objects, glued list by list."""
from listbylist.endcounts import ends_count
from listbylist.errors import need
from listbylist.joints import need_jointed
from listbylist.listends import end_by_lists, list_ends
from listbylist.numbers import number_of
from listbylist.patternkinds import is_plain


class Glue:
    """A well jointed book, perhaps a wide one, and a plain pattern."""

    def __init__(self, book, pattern):
        need_jointed(book)
        need(is_plain(book, pattern), "pattern")
        self._book = book
        self._pattern = pattern

    def __eq__(self, other):
        return isinstance(other, Glue) and self._book == other._book and self._pattern == other._pattern

    def total(self):
        """How many sortings are ends."""
        return ends_count(self._book, self._pattern)

    def ends(self, place):
        """The orders of a full list that are ends."""
        return list_ends(self._book, place, self._pattern)

    def last(self, sorting):
        """The end of the sorting, made list by list."""
        return end_by_lists(self._book, sorting, self._pattern)

    def number(self, sorting):
        """The number of the sorting."""
        return number_of(self._book, sorting)

    def told(self):
        """The pair (book, pattern)."""
        return (self._book, self._pattern)
