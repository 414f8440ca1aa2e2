"""Why an event can't be done."""
from listbylist.bookchanges import with_list, without_list
from listbylist.bookkinds import are_tied
from listbylist.errors import need
from listbylist.joints import is_jointed
from listbylist.liveevents import fields_of, is_event
from listbylist.masks import detour, leading_masks
from listbylist.patternkinds import is_pattern, is_plain
from listbylist.rungs import fault_of
from listbylist.sortkinds import are_sortings


def is_beyond(book, told):
    """True if one of things, low or high is not below the size, or the line has not as many elements."""
    size = book[0]
    if "line" in told and len(told["line"]) != size:
        return True
    things = told.get("things", ()) + tuple([told[name] for name in ("low", "high") if name in told])
    return any([thing >= size for thing in things])


def relisted(book, event):
    """The book behind "list" or "drop"."""
    return with_list(book, event[1]) if event[0] == "list" else without_list(book, event[1])


def is_held(book, branches, told):
    """True if the tie that the fields tell is not open in the branch."""
    out = leading_masks(book, branches[told["branch"]])
    return detour(out, (told["low"], told["high"])) is not None


def pattern_reason(book, event):
    """The reason that bars an event for its pattern, or None."""
    word, pattern = event[0], event[-1]
    if not is_pattern(book, pattern) or (word == "look" and not is_plain(book, pattern)):
        return "pattern"
    # What is plain is even.
    return None if fault_of(book, pattern, "even") is None else "uneven"


def places_reason(book, branches, told):
    """The reason that bars an event with these fields for what is not there, or None."""
    if any([told[name] >= len(branches) for name in ("branch", "other") if name in told]):
        return "branch"
    if "listed" in told and told["listed"] >= len(book[1]):
        return "listed"
    return "thing" if is_beyond(book, told) else None


def reason_in(book, branches, event):
    """What reason_of returns, without a check of the branches."""
    if not is_event(event):
        return "shape"
    told = fields_of(event)
    reason = places_reason(book, branches, told)
    if reason is not None:
        return reason
    if "low" in told and not are_tied(book, told["low"], told["high"]):
        return "tie"
    if event[0] in ("list", "drop") and not is_jointed(relisted(book, event)):
        return "joint"
    if "low" in told and is_held(book, branches, told):
        return "held"
    return pattern_reason(book, event) if "pattern" in told else None


def reason_of(book, branches, event):
    """None if the event can be done, else the first word that bars it."""
    need(are_sortings(book, branches), "branches")
    return reason_in(book, branches, event)
