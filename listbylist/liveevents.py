"""Which values are events, and their fields."""
from listbylist.kinds import is_line, is_number, is_rising

# For each word the fields behind it.
EVENT_FIELDS = {
    "thing": (),
    "list": ("things",),
    "drop": ("listed",),
    "branch": ("branch",),
    "exchange": ("branch", "low", "high"),
    "line": ("branch", "line"),
    "least": ("branch", "other"),
    "greatest": ("branch", "other"),
    "undo": ("branch", "pattern"),
    "turn": ("branch",),
    "look": ("pattern",),
    "day": (),
}


def fields_of(event):
    """The fields of the event by their names, in sequence."""
    return {name: event[k + 1] for k, name in enumerate(EVENT_FIELDS[event[0]])}


def are_things(thing):
    """True if thing is an ascending tuple of at least two numbers."""
    if not isinstance(thing, tuple) or len(thing) < 2:
        return False
    return all([is_number(one) for one in thing]) and is_rising(thing)


def is_field(name, thing):
    """True if thing can be a field with this name, in whatever book."""
    if name == "things":
        return are_things(thing)
    if name == "line":
        return isinstance(thing, tuple) and is_line(len(thing), thing)
    return isinstance(thing, tuple) if name == "pattern" else is_number(thing)


def is_event(thing):
    """True if thing is an event, of whatever book."""
    if not isinstance(thing, tuple) or len(thing) == 0 or not isinstance(thing[0], str):
        return False
    if thing[0] not in EVENT_FIELDS or len(thing) != len(EVENT_FIELDS[thing[0]]) + 1:
        return False
    told = fields_of(thing)
    if not all([is_field(name, field) for name, field in told.items()]):
        return False
    return "low" not in told or told["low"] < told["high"]


def is_log(thing):
    """True if thing is a tuple of events."""
    return isinstance(thing, tuple) and all([is_event(event) for event in thing])
