"""Merges as objects."""
from listbylist.bookkinds import is_book
from listbylist.errors import need
from listbylist.listmerges import list_orders
from listbylist.merging import greatest_common, least_common
from listbylist.sortkinds import are_sortings, is_sorting
from listbylist.whyrows import why_turned


class Merge:
    """Several sortings of a book, to be merged."""

    def __init__(self, book, *sortings):
        need(is_book(book), "book")
        need(are_sortings(book, sortings), "sortings")
        self._book = book
        self._sortings = sortings

    def __eq__(self, other):
        if not isinstance(other, Merge) or self._book != other._book:
            return False
        mine, others = self._sortings, other._sortings
        return all([one in others for one in mine]) and all([one in mine for one in others])

    def least(self):
        """The least common one."""
        return least_common(self._book, self._sortings)

    def greatest(self):
        """The greatest common one."""
        return greatest_common(self._book, self._sortings)

    def why(self, tie):
        """Any row of the tie each of whose steps at least one of the sortings turns, or None."""
        return why_turned(self._book, self._sortings, tie)

    def orders(self):
        """The orders of the full lists, merged list by list."""
        return list_orders(self._book, self._sortings)

    def grown(self, sorting):
        """A new Merge with one more sorting, the last one."""
        need(is_sorting(self._book, sorting), "sorting")
        sortings = self._sortings + (sorting,)
        return Merge(self._book, *sortings)

    def told(self):
        """The pair (book, sortings)."""
        return (self._book, self._sortings)
