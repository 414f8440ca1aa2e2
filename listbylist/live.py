"""A live desk of branches."""
from listbylist.barring import reason_in
from listbylist.books import book_of
from listbylist.deeds import deed_in
from listbylist.errors import InvalidEvent, NothingToUndo, need
from listbylist.joints import need_jointed
from listbylist.kinds import is_number
from listbylist.liveasks import LiveAsks


class Desk(LiveAsks):
    """A book, branches of sortings, a view and a log of events."""

    def __init__(self, size, *lists):
        book = book_of(size, *lists)
        need_jointed(book)
        self._book = book
        self._branches = ((),)
        self._view = ("none",)
        self._log = ()
        # What the book, the branches and the view were ahead of each event of the log.
        self._past = ()

    def __eq__(self, other):
        if not isinstance(other, Desk) or self._book != other._book or self._branches != other._branches:
            return False
        return self._view == other._view and self._log == other._log

    def add_thing(self):
        """One more thing."""
        self.go(("thing",))

    def add_list(self, things):
        """One more list."""
        self.go(("list", things))

    def drop_list(self, listed):
        """The own list at listed is left out."""
        self.go(("drop", listed))

    def add_branch(self, branch):
        """One more branch, equal to this one."""
        self.go(("branch", branch))

    def exchange(self, branch, low, high):
        """The tie is exchanged in the branch."""
        self.go(("exchange", branch, low, high))

    def follow(self, branch, line):
        """The branch becomes the sorting that the line fits."""
        self.go(("line", branch, line))

    def least(self, branch, other):
        """The branch becomes the least common one of both."""
        self.go(("least", branch, other))

    def greatest(self, branch, other):
        """The branch becomes the greatest common one of both."""
        self.go(("greatest", branch, other))

    def undo_by(self, branch, pattern):
        """The branch becomes its end by the pattern."""
        self.go(("undo", branch, pattern))

    def turn(self, branch):
        """The branch becomes its turn."""
        self.go(("turn", branch))

    def look(self, pattern):
        """The pattern becomes the view."""
        self.go(("look", pattern))

    def day(self):
        """A day ends."""
        self.go(("day",))

    def barred(self, event):
        """The reason why the event can't be done now, or None."""
        return reason_in(self._book, self._branches, event)

    def go(self, event):
        """Do the event, which comes last in the log."""
        reason = self.barred(event)
        if reason is not None:
            raise InvalidEvent(event, reason)
        self._past = self._past + ((self._book, self._branches, self._view),)
        self._book, self._branches = deed_in(self._book, self._branches, event)
        if event[0] == "look":
            self._view = event[1]
        self._log = self._log + (event,)

    def do_all(self, events, keep=False):
        """Do all events; if one is barred, keep those ahead of it, or none."""
        need(isinstance(events, tuple), "events")
        need(isinstance(keep, bool), "keep")
        done = 0
        for event in events:
            reason = self.barred(event)
            if reason is not None:
                self.undo(0 if keep else done)
                raise InvalidEvent(event, reason)
            self.go(event)
            done = done + 1

    def undo(self, steps=1):
        """The desk is as before its last events, which leave the log."""
        need(is_number(steps), "steps")
        if steps > len(self._log):
            raise NothingToUndo(steps)
        if steps > 0:
            first = len(self._log) - steps
            self._book, self._branches, self._view = self._past[first]
            self._past = self._past[:first]
            self._log = self._log[:first]

    def tried(self, events):
        """The branches behind all events, without any change."""
        need(isinstance(events, tuple), "events")
        book, branches = self._book, self._branches
        for event in events:
            reason = reason_in(book, branches, event)
            if reason is not None:
                raise InvalidEvent(event, reason)
            book, branches = deed_in(book, branches, event)
        return branches

    def log(self):
        """The tuple of the events done."""
        return self._log
