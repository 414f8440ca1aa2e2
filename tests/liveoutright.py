"""The words of the document on events and desks, gone through outright, and drawn events."""
from functools import lru_cache
from itertools import combinations

import outright
from listbylist.turning import turn_of

FIELDS = {
    "thing": (), "list": ("things",), "drop": ("listed",), "branch": ("branch",), "exchange": ("branch", "low", "high"),
    "line": ("branch", "line"), "least": ("branch", "other"), "greatest": ("branch", "other"), "undo": ("branch", "pattern"),
    "turn": ("branch",), "look": ("pattern",), "day": (),
}
WORDS = tuple(FIELDS)
REASONS = ("shape", "branch", "listed", "thing", "tie", "joint", "held", "pattern", "uneven")


def is_number(value):
    return outright.is_int(value) and value >= 0


def is_field(name, value):
    if name == "things":
        return type(value) is tuple and len(value) > 1 and all(map(is_number, value)) and list(value) == sorted(set(value))
    if name == "line":
        return type(value) is tuple and all(map(is_number, value)) and sorted(value) == list(range(len(value)))
    return type(value) is tuple if name == "pattern" else is_number(value)


def is_event(value):
    if type(value) is not tuple or not value or type(value[0]) is not str or value[0] not in FIELDS:
        return False
    names = FIELDS[value[0]]
    if len(value) != len(names) + 1 or not all(map(is_field, names, value[1:])):
        return False
    return value[0] != "exchange" or value[2] < value[3]


def named(event):
    return dict(zip(FIELDS[event[0]], event[1:]))


@lru_cache(None)
def jointed(book):
    return outright.jointed(book)


def plain(pattern):
    return pattern[0] not in ("ropes", "above", "not") and all(plain(x) for x in pattern[1:] if type(x) is tuple)


def relisted(book, event):
    size, lists = book
    if event[0] == "list":
        return (size, (*lists, event[1]))
    return (size, tuple(things for k, things in enumerate(lists) if k != event[1]))


def reason(book, branches, event):
    """The first of the words that applies, or None."""
    if not is_event(event):
        return "shape"
    told = named(event)
    if any(told[name] not in range(len(branches)) for name in ("branch", "other") if name in told):
        return "branch"
    if "listed" in told and told["listed"] not in range(len(book[1])):
        return "listed"
    if any(x >= book[0] for x in (*told.get("things", ()), told.get("low", 0), told.get("high", 0))):
        return "thing"
    if "line" in told and len(told["line"]) != book[0]:
        return "thing"
    if "low" in told and not outright.tied(book, told["low"], told["high"]):
        return "tie"
    if event[0] in ("list", "drop") and not jointed(relisted(book, event)):
        return "joint"
    if "low" in told and (told["low"], told["high"]) not in outright.open_ties(book, branches[told["branch"]]):
        return "held"
    if "pattern" in told:
        pattern = told["pattern"]
        if not outright.is_pattern(book, pattern) or event[0] == "look" and not plain(pattern):
            return "pattern"
        if event[0] == "undo" and not outright.even(book, pattern):
            return "uneven"
    return None


def first_line(book, turned):
    """At each place the least thing left with nothing left ahead of it."""
    left, line = list(range(book[0])), []
    while left:
        line.append(min(
            x for x in left
            if not any(outright.tied(book, x, y) and outright.ahead(turned, y, x) for y in left if y != x)))
        left.remove(line[-1])
    return line


def merged(book, one, other):
    return outright.row_ties(book, set(one) | set(other))


def over(book, turned):
    return tuple(tie for tie in outright.ties(book) if tie not in turned)


def end_by_steps(book, turned, pattern):
    falls = outright.falls_in(book, turned, pattern)
    while falls:
        turned = outright.flip(turned, falls[-1])
        falls = outright.falls_in(book, turned, pattern)
    return turned


def turn(book, turned):
    """The one sorting whose rise reasons are the reasons of this one."""
    found = turn_of(book, turned)
    assert outright.is_sorting(book, found)
    assert outright.rise_reasons(book, found) == outright.reasons(book, turned)
    return found


def changed(book, branches, event):
    """What becomes of the branch that the event changes."""
    word, one = event[0], branches[event[1]]
    if word == "exchange":
        return outright.flip(one, event[2:])
    if word == "line":
        return outright.by_line(book, event[2])
    if word == "least":
        return merged(book, one, branches[event[2]])
    if word == "greatest":
        return over(book, merged(book, over(book, one), over(book, branches[event[2]])))
    return end_by_steps(book, one, event[2]) if word == "undo" else turn(book, one)


def deed(book, branches, event):
    """The book and the branches behind an event that can be done."""
    word = event[0]
    if word in ("look", "day"):
        return book, branches
    if word == "thing":
        return (book[0] + 1, book[1]), branches
    if word in ("list", "drop"):
        other = relisted(book, event)
        return other, tuple(outright.by_line(other, first_line(book, one)) for one in branches)
    at = event[1]
    if word == "branch":
        return book, (*branches, branches[at])
    return book, tuple(changed(book, branches, event) if k == at else one for k, one in enumerate(branches))


def drawn_number(draw, count):
    """Mostly one below count, now and then one that is too great."""
    return draw.randrange(count) if count and draw.random() < 0.93 else count + draw.randrange(2)


def drawn_field(draw, book, branches, name):
    size, lists = book
    if name in ("branch", "other"):
        return drawn_number(draw, len(branches))
    if name == "listed":
        return drawn_number(draw, len(lists))
    if name == "things":
        many = draw.choice((2, 2, 3, 3, 4))
        return tuple(sorted(draw.sample(range(size + (draw.random() < 0.1)), many))) if size >= many else (0, 1)
    if name == "line":
        count = size if draw.random() < 0.93 else size + draw.choice((-1, 1))
        return tuple(draw.sample(range(count), count))
    return outright.drawn_pattern(draw, book, draw.choice((1, 2, 4)))


def drawn_event(draw, book, branches):
    """An event that can mostly be done; most of what would lead to too large books is left out."""
    word = draw.choice(WORDS + ("exchange", "exchange", "line", "least", "greatest", "undo", "turn", "list"))
    if (word == "thing" and book[0] > 5) or (word == "list" and len(book[1]) > 5) or (word == "branch" and len(branches) > 4):
        word = "exchange"
    if word == "exchange":
        ties = outright.ties(book)
        if ties and draw.random() < 0.9:
            at = draw.randrange(len(branches))
            can = outright.open_ties(book, branches[at]) if draw.random() < 0.8 else ties
            return ("exchange", at, *draw.choice(can))
        low, high = draw.choice(list(combinations(range(book[0] + 2), 2)))
        return ("exchange", drawn_number(draw, len(branches)), low, high)
    return (word, *(drawn_field(draw, book, branches, name) for name in FIELDS[word]))


def drawn_desks(draw, books, many, events):
    """Pairs of a first book and a list of drawn events, good ones and barred ones."""
    for _ in range(many):
        first = book = draw.choice(books)
        branches, found = ((),), []
        for _ in range(events):
            event = drawn_event(draw, book, branches)
            found.append(event)
            if reason(book, branches, event) is None:
                book, branches = deed(book, branches, event)
        yield first, tuple(found)
