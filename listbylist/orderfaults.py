"""Sortings beneath one another whose ends are not."""
from listbylist.alls import are_turned
from listbylist.closures import closed, turned_by_some
from listbylist.errors import InvalidPaper, need
from listbylist.masks import near_masks
from listbylist.patternkinds import is_pattern
from listbylist.pieces import cut_in
from listbylist.rungs import fault_of, need_on
from listbylist.showings import least_turned
from listbylist.sortkinds import is_sorting
from listbylist.undoing import end_in


def need_even(book, pattern):
    """Raise NotUsable, or OffRung, unless this is an even pattern."""
    need(is_pattern(book, pattern), "pattern")
    need_on(book, pattern, "even")


def end_ropes_of(book, fault):
    """The end ropes of a choice in which what is missing is asked with the one that is given."""
    (rope,), missing = fault
    near = near_masks(book)
    if rope[0] == missing[0]:
        return (rope, cut_in(near, missing, rope[1], missing[1]))
    return (cut_in(near, missing, missing[0], rope[0]), rope)


def least_showings_of(book, fault):
    """The least sortings that show the end ropes of this choice."""
    return tuple([least_turned(book, rope) for rope in end_ropes_of(book, fault)])


def faulty_pair(book, fault):
    """A pair as order_fault tells it, made of what the rung "greatest" lacks."""
    # The first shows what is missing alone, so it is an end, and it turns the tie of what is given. The second
    # is above it, and its end does not turn this tie, since undoing it may begin with that.
    return (least_turned(book, fault[1]), closed(book, turned_by_some(least_showings_of(book, fault))))


def order_fault(book, pattern):
    """None if the pattern is on "greatest"; else any two sortings beneath one another whose ends are not."""
    need_even(book, pattern)
    fault = fault_of(book, pattern, "greatest")
    return None if fault is None else faulty_pair(book, fault)


def check_sortings(book, thing):
    """Raise InvalidPaper unless thing is a pair of sortings."""
    if not isinstance(thing, tuple) or len(thing) != 2:
        raise InvalidPaper("shape", -1)
    for k, sorting in enumerate(thing):
        if not is_sorting(book, sorting):
            raise InvalidPaper("sorting", k)


def lets_order(book, pattern, thing):
    """A checker of such pairs: the pair of the ends."""
    need_even(book, pattern)
    check_sortings(book, thing)
    if not are_turned(thing[0], thing[1]):
        raise InvalidPaper("beneath", -1)
    ends = (end_in(book, thing[0], pattern), end_in(book, thing[1], pattern))
    if are_turned(ends[0], ends[1]):
        raise InvalidPaper("ends", -1)
    return ends
