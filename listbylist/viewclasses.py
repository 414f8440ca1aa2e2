"""Views: sortings alike by an even pattern."""
from listbylist.errors import need
from listbylist.joints import need_jointed
from listbylist.orderfaults import need_even
from listbylist.patternlots import told_ropes
from listbylist.sortkinds import are_sortings, is_sorting
from listbylist.stepping import need_both
from listbylist.tops import are_alike
from listbylist.undoing import end_in, top_in
from listbylist.viewmerges import greatest_end, least_end


class View:
    """A well jointed book and an even pattern that tells what to leave unseen."""

    def __init__(self, book, pattern):
        need_jointed(book)
        need_even(book, pattern)
        self._book = book
        self._pattern = pattern
        self._ropes = told_ropes(book, pattern)

    def __eq__(self, other):
        return isinstance(other, View) and self._book == other._book and self._ropes == other._ropes

    def last(self, sorting):
        """The end of the sorting."""
        need(is_sorting(self._book, sorting), "sorting")
        return end_in(self._book, sorting, self._pattern)

    def top(self, sorting):
        """The top of the sorting."""
        need(is_sorting(self._book, sorting), "sorting")
        return top_in(self._book, sorting, self._pattern)

    def alike(self, sorting, other):
        """True if the two are alike."""
        need_both(self._book, sorting, other)
        return are_alike(self._book, sorting, other, self._pattern)

    def least(self, *sortings):
        """The end of the least common one of the ends of the sortings."""
        need(are_sortings(self._book, sortings), "sortings")
        return least_end(self._book, sortings, self._pattern)

    def greatest(self, *sortings):
        """The end of the greatest common one of the ends of the sortings."""
        need(are_sortings(self._book, sortings), "sortings")
        return greatest_end(self._book, sortings, self._pattern)

    def told(self):
        """The pair (book, pattern)."""
        return (self._book, self._pattern)
