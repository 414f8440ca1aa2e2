"""What can be asked of a desk."""
from listbylist.bookchanges import without_list
from listbylist.errors import need
from listbylist.kinds import is_below
from listbylist.leaving import loss_of
from listbylist.listorders import orders_of
from listbylist.numbers import sorting_count
from listbylist.origins import who_shows
from listbylist.reasons import reasons_of
from listbylist.stepping import unlike_ties
from listbylist.tops import are_alike


def counts_of(log, branch):
    """How many events of the log have the branch and exchange, merge, or undo."""
    words = [event[0] for event in log if len(event) > 2 and event[1] == branch]
    return (words.count("exchange"), words.count("least") + words.count("greatest"), words.count("undo"))


class LiveAsks:
    """The base class of Desk, which sets what is asked here."""

    def book_now(self):
        """The book."""
        return self._book

    def branches_now(self):
        """The tuple of the branches."""
        return self._branches

    def view_now(self):
        """The view."""
        return self._view

    def sorting_now(self, branch):
        """The branch as a sorting."""
        need(is_below(len(self._branches), branch), "branch")
        return self._branches[branch]

    def orders_now(self, branch):
        """The orders of the full lists at the branch."""
        return orders_of(self._book, self.sorting_now(branch))

    def reasons_now(self, branch):
        """The reasons of the branch."""
        return reasons_of(self._book, self.sorting_now(branch))

    def _both_now(self, branch, other):
        """The pair of two branches."""
        sorting = self.sorting_now(branch)
        need(is_below(len(self._branches), other), "other")
        return (sorting, self._branches[other])

    def same(self, branch, other):
        """True if both are alike by the view."""
        one, another = self._both_now(branch, other)
        return are_alike(self._book, one, another, self._view)

    def apart(self, branch, other):
        """How many ties just one of both turns."""
        one, another = self._both_now(branch, other)
        return len(unlike_ties(one, another))

    def who_has(self, rope):
        """The places of the branches that show the rope."""
        return who_shows(self._book, self._branches, rope)

    def sortings_now(self):
        """How many sortings the book has."""
        return sorting_count(self._book)

    def harmless(self, listed):
        """True if nothing is lost when the own list at listed is left out."""
        return loss_of(self._book, without_list(self._book, listed)) is None

    def tally(self):
        """For each branch how many events of the log exchange in it, merge into it, undo it."""
        return tuple([counts_of(self._log, branch) for branch in range(len(self._branches))])
