"""The checkers of rows that show why a tie is turned or kept."""
from listbylist.bookkinds import is_row
from listbylist.errors import InvalidPaper
from listbylist.whyrows import need_merge


def first_places(book, sortings, tie, thing, turned):
    """For each step of the row the place of the first sorting that turns it, or, if not turned, does not."""
    need_merge(book, sortings, tie)
    if not is_row(book, thing) or (thing[0], thing[-1]) != tie:
        raise InvalidPaper("shape", -1)
    places = []
    for k in range(len(thing) - 1):
        step = (thing[k], thing[k + 1])
        found = [place for place, sorting in enumerate(sortings) if (step in sorting) == turned]
        if not found:
            raise InvalidPaper("step", k)
        places.append(found[0])
    return tuple(places)


def lets_turned(book, sortings, tie, thing):
    """A checker: for each step of the row the place of the first sorting that turns it."""
    return first_places(book, sortings, tie, thing, True)


def lets_kept(book, sortings, tie, thing):
    """A checker: for each step of the row the place of the first sorting that does not turn it."""
    return first_places(book, sortings, tie, thing, False)
