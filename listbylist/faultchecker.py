"""The checker of what a pattern lacks on a rung."""
from listbylist.choices import asked_with
from listbylist.errors import InvalidPaper
from listbylist.evens import sides_in
from listbylist.masks import near_masks
from listbylist.patternlots import tells
from listbylist.ropekinds import is_rope
from listbylist.rungs import need_both_stated


def is_asked(book, given, missing, rung):
    """True if by some choice these given ropes are such end ropes and the missing one is asked with them."""
    if rung == "even":
        sides = sides_in(book, given[0], given[1])
        return sides is not None and missing in sides
    return missing in asked_with(near_masks(book), given[0], rung)


def lets_fault(book, pattern, rung, thing):
    """A checker of pairs (given, missing): missing."""
    need_both_stated(book, pattern, rung)
    many = 2 if rung == "even" else 1
    if not isinstance(thing, tuple) or len(thing) != 2:
        raise InvalidPaper("shape", -1)
    given, missing = thing
    if not isinstance(given, tuple) or len(given) != many:
        raise InvalidPaper("shape", -1)
    near = near_masks(book)
    for k, rope in enumerate(given):
        if not is_rope(book, rope) or not tells(near, pattern, rope):
            raise InvalidPaper("given", k)
    if not is_rope(book, missing) or tells(near, pattern, missing):
        raise InvalidPaper("missing", -1)
    if not is_asked(book, given, missing, rung):
        raise InvalidPaper("choice", -1)
    return missing
