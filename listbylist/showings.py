"""The least sorting that shows a rope, and the greatest one that rises by it."""
from listbylist.books import ties_of
from listbylist.errors import need
from listbylist.masks import near_masks
from listbylist.ropekinds import behind_in, is_rope


def least_turned(book, rope):
    """The ties that each sorting that shows the rope turns."""
    low, high, ahead = rope
    lows = behind_in(near_masks(book), rope) + (low,)
    return tuple([tie for tie in ties_of(book) if tie[0] in lows and tie[1] in ahead + (high,)])


def most_turned(book, rope):
    """The ties that each sorting that rises by the rope may turn, all of them together, too."""
    low, high, ahead = rope
    highs = behind_in(near_masks(book), rope) + (high,)
    return tuple([tie for tie in ties_of(book) if tie[0] not in ahead + (low,) or tie[1] not in highs])


def least_showing(book, rope):
    """The sorting that shows the rope and is beneath each one that shows it."""
    need(is_rope(book, rope), "rope")
    return least_turned(book, rope)


def beneath_showing(book, rope):
    """The sorting that turns the same ties but the rope's."""
    need(is_rope(book, rope), "rope")
    return tuple([tie for tie in least_turned(book, rope) if tie != rope[:2]])


def greatest_rising(book, rope):
    """The sorting that rises by the rope and is above each one that puts its things so."""
    need(is_rope(book, rope), "rope")
    return most_turned(book, rope)
