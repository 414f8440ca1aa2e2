"""What events do."""
from listbylist.barring import reason_in, relisted
from listbylist.errors import InvalidEvent, need
from listbylist.exchanging import flipped
from listbylist.merging import greatest_common, least_common
from listbylist.sortkinds import are_sortings
from listbylist.sortlines import fitted
from listbylist.sortturns import carried
from listbylist.turning import turn_of
from listbylist.undoing import end_in


def branch_behind(book, branches, event):
    """What becomes of the branch of an event that changes one."""
    word, sorting, told = event[0], branches[event[1]], event[2:]
    if word == "exchange":
        return flipped(sorting, told)
    if word == "line":
        return fitted(book, told[0])
    if word == "least":
        return least_common(book, (sorting, branches[told[0]]))
    if word == "greatest":
        return greatest_common(book, (sorting, branches[told[0]]))
    return end_in(book, sorting, told[0]) if word == "undo" else turn_of(book, sorting)


def deed_in(book, branches, event):
    """What deed_of returns for an event that can be done."""
    word = event[0]
    if word in ("look", "day"):
        return (book, branches)
    if word == "thing":
        return ((book[0] + 1, book[1]), branches)
    if word in ("list", "drop"):
        other = relisted(book, event)
        return (other, tuple([carried(book, sorting, other) for sorting in branches]))
    branch = event[1]
    if word == "branch":
        return (book, branches + (branches[branch],))
    behind = branch_behind(book, branches, event)
    return (book, branches[:branch] + (behind,) + branches[branch + 1:])


def deed_of(book, branches, event):
    """The pair (book, branches) behind the event."""
    need(are_sortings(book, branches), "branches")
    reason = reason_in(book, branches, event)
    if reason is not None:
        raise InvalidEvent(event, reason)
    return deed_in(book, branches, event)
