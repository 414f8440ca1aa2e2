"""A desk asked and told by lines of text."""
from listbylist.errors import InvalidText, need
from listbylist.eventtexts import read_event
from listbylist.live import Desk
from listbylist.liveevents import EVENT_FIELDS
from listbylist.patterntexts import due_of
from listbylist.ropetexts import rope_in_fields, ropes_text
from listbylist.sorttexts import sorting_line

# How many branches stand behind each word.
ASKED_BRANCHES = {"orders": 1, "reasons": 1, "same": 2, "apart": 2, "many": 0}


def branches_in(live, fields):
    """The branches behind the word that a line of a question begins with."""
    if fields[0] not in ASKED_BRANCHES:
        raise InvalidText(0, 0)
    many = ASKED_BRANCHES[fields[0]]
    there = list(range(len(live.branches_now())))
    branches = [due_of(there, fields, at) for at in range(1, many + 1)]
    if len(fields) > many + 1:
        raise InvalidText(0, many + 1)
    return branches


def answer_who(live, fields):
    """The places of the branches that show the rope behind the word."""
    rope = rope_in_fields(live.book_now(), fields, 1, 0)
    return " ".join([str(branch) for branch in live.who_has(rope)])


def answer(live, fields):
    """What the desk answers to the fields of a question."""
    word = fields[0]
    if word == "who":
        return answer_who(live, fields)
    branches = branches_in(live, fields)
    if word == "orders":
        return sorting_line(live.book_now(), live.sorting_now(branches[0]))
    if word == "reasons":
        return ropes_text(live.book_now(), live.reasons_now(branches[0]))
    if word == "same":
        return "yes" if live.same(branches[0], branches[1]) else "no"
    return str(live.apart(branches[0], branches[1]) if word == "apart" else live.sortings_now())


def desk_line(live, text):
    """Do the event of the line, or answer its question."""
    need(isinstance(live, Desk), "live")
    need(isinstance(text, str), "text")
    fields = text.split(" ")
    if fields[0] in EVENT_FIELDS:
        live.go(read_event(text))
        return "done"
    return answer(live, fields)
