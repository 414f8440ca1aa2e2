"""What shows that two sortings are not alike by a pattern."""
from listbylist.alls import are_turned
from listbylist.bookkinds import is_tie
from listbylist.errors import InvalidPaper
from listbylist.exchanging import flipped
from listbylist.finests import rises_between
from listbylist.masks import leading_masks, near_masks
from listbylist.merging import greatest_common, least_common
from listbylist.orderfaults import need_even
from listbylist.patternlots import tells
from listbylist.showing import open_ropes
from listbylist.sortkinds import is_sorting
from listbylist.stepping import need_both


def parting_of(book, sorting, other, pattern):
    """None if the two are alike by the pattern; else any pair of a sorting and a rise of it that part them."""
    need_both(book, sorting, other)
    need_even(book, pattern)
    near = near_masks(book)
    # They are alike exactly if the pattern tells all ropes of one way up from the greatest to the least common one.
    for middle, rope in rises_between(book, sorting, other):
        if not tells(near, pattern, rope):
            return (middle, rope[:2])
    return None


def rope_of_rise(book, middle, tie):
    """The rope by which the sorting called middle rises; None if tie is no rise of it."""
    if not is_tie(book, tie):
        return None
    ropes = open_ropes(near_masks(book), leading_masks(book, middle), False)
    found = [rope for rope in ropes if rope[:2] == tie]
    return found[0] if found else None


def lets_parting(book, sorting, other, pattern, thing):
    """A checker of such pairs: the rope of the exchange."""
    need_both(book, sorting, other)
    need_even(book, pattern)
    if not isinstance(thing, tuple) or len(thing) != 2:
        raise InvalidPaper("shape", -1)
    middle, tie = thing
    least = least_common(book, (sorting, other))
    if not is_sorting(book, middle) or not are_turned(middle, least):
        raise InvalidPaper("sorting", -1)
    if not are_turned(greatest_common(book, (sorting, other)), middle):
        raise InvalidPaper("sorting", -1)
    rope = rope_of_rise(book, middle, tie)
    if rope is None or not are_turned(flipped(middle, tie), least):
        raise InvalidPaper("tie", -1)
    if tells(near_masks(book), pattern, rope):
        raise InvalidPaper("rope", -1)
    return rope
