"""Ropes as lines of text."""
from listbylist.bookkinds import are_tied
from listbylist.books import between_in
from listbylist.errors import InvalidRow, InvalidText, need
from listbylist.masks import near_masks
from listbylist.ropekinds import is_rope, is_ropes


def line_of_rope(rope):
    """The low, the high and a colon, those ahead."""
    low, high, ahead = rope
    return " ".join([f"{low} {high}:"] + [str(thing) for thing in ahead])


def rope_line(book, rope):
    """The rope as a line."""
    need(is_rope(book, rope), "rope")
    return line_of_rope(rope)


def read_thing(things, end, fields, line, at):
    """The one of these things that is written, with this end, in the field at this place of a line."""
    found = [thing for thing in things if at < len(fields) and fields[at] == str(thing) + end]
    if not found:
        raise InvalidText(line, at)
    return found[0]


def rope_in_fields(book, fields, start, line):
    """The rope in the fields from start on; the number of the line is told with an error."""
    low = read_thing(list(range(book[0])), "", fields, line, start)
    highs = [thing for thing in range(low + 1, book[0]) if are_tied(book, low, thing)]
    high = read_thing(highs, ":", fields, line, start + 1)
    left = between_in(near_masks(book), low, high)
    ahead = []
    for at in range(start + 2, len(fields)):
        thing = read_thing(left, "", fields, line, at)
        ahead.append(thing)
        left = [other for other in left if other > thing]
    return (low, high, tuple(ahead))


def rope_in_line(book, text, line):
    """The rope whose rope_line the text is; the number of the line is told with an error."""
    return rope_in_fields(book, text.split(" "), 0, line)


def read_rope(book, text):
    """The rope of such a line."""
    need(isinstance(text, str), "text")
    return rope_in_line(book, text, 0)


def ropes_text(book, ropes):
    """The lines of the ropes, joined by newlines."""
    need(is_ropes(book, ropes), "ropes")
    return "\n".join([line_of_rope(rope) for rope in ropes])


def read_ropes(book, text):
    """The tuple of the ropes of such a text."""
    need(isinstance(text, str), "text")
    if text == "":
        return ()
    ropes = [rope_in_line(book, part, line) for line, part in enumerate(text.split("\n"))]
    for row in range(1, len(ropes)):
        if ropes[row] <= ropes[row - 1]:
            raise InvalidRow(row)
    return tuple(ropes)
