"""Even patterns."""
from listbylist.bookkinds import are_tied
from listbylist.choices import sides_by
from listbylist.errors import need
from listbylist.patternkinds import is_pattern
from listbylist.patternlots import told_map
from listbylist.ropekinds import is_rope


def sides_in(book, rope, other):
    """The middle-ahead and the middle-behind rope of the choice with these two end ropes, or None."""
    if rope[1] != other[0] or not are_tied(book, rope[0], other[1]):
        return None
    return sides_by(rope, other)


def sides_of(book, rope, other):
    """If rope is the low and other the high end rope of one choice, its two other ropes; else None."""
    need(is_rope(book, rope), "rope")
    need(is_rope(book, other), "other")
    return sides_in(book, rope, other)


def first_uneven(book, told):
    """A pair of end ropes among the told ones, a dict, but not both of their sides; None if there is none."""
    for rope in told:
        for other in told:
            sides = sides_in(book, rope, other)
            if sides is not None and not (sides[0] in told and sides[1] in told):
                return (rope, other)
    return None


def is_even(book, pattern):
    """True if the pattern is on the rung "even"."""
    return uneven_pair(book, pattern) is None


def uneven_pair(book, pattern):
    """None if the pattern is even, else any pair of end ropes of a choice, both told, whose sides are not."""
    need(is_pattern(book, pattern), "pattern")
    return first_uneven(book, told_map(book, pattern))
