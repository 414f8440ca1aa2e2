"""The checker of undoing down to an end."""
from listbylist.bookkinds import is_tie
from listbylist.errors import InvalidPaper
from listbylist.exchanging import flipped
from listbylist.opens import falls_of
from listbylist.undoing import need_pattern, told_falls


def lets_undoing(book, sorting, pattern, thing):
    """A checker of ties that undo the sorting down to an end: the end."""
    need_pattern(book, sorting, pattern)
    if not isinstance(thing, tuple):
        raise InvalidPaper("shape", -1)
    reached = sorting
    for k, tie in enumerate(thing):
        if not is_tie(book, tie):
            raise InvalidPaper("tie", k)
        if tie not in falls_of(book, reached):
            raise InvalidPaper("fall", k)
        if tie not in told_falls(book, reached, pattern):
            raise InvalidPaper("rope", k)
        reached = flipped(reached, tie)
    if told_falls(book, reached, pattern):
        raise InvalidPaper("end", -1)
    return reached
