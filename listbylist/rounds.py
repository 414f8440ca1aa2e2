"""Ties that lead in a round."""
from listbylist.bookkinds import is_thing
from listbylist.errors import InvalidPaper, need
from listbylist.masks import leading_masks, round_in
from listbylist.sortkinds import is_ties


def round_of(book, ties):
    """None if the ties are a sorting, else any things that lead in a round if just these are turned."""
    need(is_ties(book, ties), "ties")
    return round_in(leading_masks(book, ties))


def lets_round(book, ties, thing):
    """A checker of such things: how many there are."""
    need(is_ties(book, ties), "ties")
    if not isinstance(thing, tuple) or len(thing) < 3:
        raise InvalidPaper("shape", -1)
    for k, one in enumerate(thing):
        if not is_thing(book, one) or one in thing[:k]:
            raise InvalidPaper("thing", k)
    out = leading_masks(book, ties)
    for k, one in enumerate(thing):
        if not out[one] >> thing[(k + 1) % len(thing)] & 1:
            raise InvalidPaper("way", k)
    return len(thing)
