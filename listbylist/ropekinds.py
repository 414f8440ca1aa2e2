"""Which values are ropes, and what is ahead and behind on them."""
from listbylist.bookkinds import is_tie
from listbylist.books import between_in
from listbylist.errors import need
from listbylist.kinds import is_lot, is_number, is_rising
from listbylist.masks import near_masks


def is_rope(book, thing):
    """True if thing is a rope of the book."""
    if not isinstance(thing, tuple) or len(thing) != 3:
        return False
    low, high, ahead = thing
    if not is_tie(book, (low, high)) or not is_lot(book[0], ahead):
        return False
    middle = between_in(near_masks(book), low, high)
    return all([one in middle for one in ahead])


def is_ropes(book, thing):
    """True if thing is an ascending tuple of ropes of the book."""
    return isinstance(thing, tuple) and all([is_rope(book, rope) for rope in thing]) and is_rising(thing)


def is_any_rope(thing):
    """True if thing is a rope of some book."""
    if not isinstance(thing, tuple) or len(thing) != 3:
        return False
    low, high, ahead = thing
    if not is_number(low) or not is_number(high) or low >= high:
        return False
    return is_lot(high, ahead) and all([one > low for one in ahead])


def are_any_ropes(thing):
    """True if thing is an ascending tuple of ropes of some book."""
    return isinstance(thing, tuple) and all([is_any_rope(rope) for rope in thing]) and is_rising(thing)


def middle_in(near, rope):
    """The lot of all things between the ends, told which things are near."""
    return between_in(near, rope[0], rope[1])


def behind_in(near, rope):
    """The lot of the things behind, told which things are near."""
    return tuple([thing for thing in middle_in(near, rope) if thing not in rope[2]])


def behind_of(book, rope):
    """The lot of the things behind."""
    need(is_rope(book, rope), "rope")
    return behind_in(near_masks(book), rope)


def middle_of(book, rope):
    """The lot of all things between the ends."""
    need(is_rope(book, rope), "rope")
    return middle_in(near_masks(book), rope)
