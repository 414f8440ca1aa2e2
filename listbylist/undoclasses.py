"""Undoing as an object."""
from listbylist.endings import all_ends
from listbylist.errors import need
from listbylist.evens import is_even
from listbylist.joints import need_jointed
from listbylist.patternkinds import is_pattern
from listbylist.patternlots import told_ropes
from listbylist.undoing import end_first, falls_in


class Undoing:
    """A well jointed book and a pattern by which its sortings are undone."""

    def __init__(self, book, pattern):
        need_jointed(book)
        need(is_pattern(book, pattern), "pattern")
        self._book = book
        self._pattern = pattern
        self._ropes = told_ropes(book, pattern)

    def __eq__(self, other):
        return isinstance(other, Undoing) and self._book == other._book and self._ropes == other._ropes

    def even(self):
        """True if the pattern is even."""
        return is_even(self._book, self._pattern)

    def ropes(self):
        """All ropes that the pattern tells, ascending."""
        return self._ropes

    def last(self, sorting):
        """The end reached by exchanging the first told fall as long as there is one."""
        return end_first(self._book, sorting, self._pattern)

    def falls(self, sorting):
        """The falls of the sorting whose reasons the pattern tells, ascending."""
        return falls_in(self._book, sorting, self._pattern)

    def ends(self):
        """All sortings that are ends, ascending."""
        return all_ends(self._book, self._pattern)

    def told(self):
        """The pair (book, pattern)."""
        return (self._book, self._pattern)
