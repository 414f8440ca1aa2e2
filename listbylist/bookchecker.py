"""The checker of books."""
from listbylist.errors import InvalidPaper
from listbylist.kinds import are_below, is_integer, is_rising
from listbylist.masks import count_of, mask_of


def check_list(size, things, k):
    """Raise InvalidPaper if things, element k of the lists, can't be a list."""
    if not isinstance(things, tuple):
        raise InvalidPaper("shape", k)
    if len(things) < 2:
        raise InvalidPaper("short", k)
    if not are_below(size, things):
        raise InvalidPaper("thing", k)
    if not is_rising(things):
        raise InvalidPaper("sequence", k)


def tie_count(lists):
    """How many ties these lists make."""
    # A book that is only checked may have any size, so just the things told in lists get bits.
    spots = {}
    for things in lists:
        for thing in things:
            spots.setdefault(thing, len(spots))
    near = [0] * len(spots)
    for things in lists:
        whole = mask_of([spots[thing] for thing in things])
        for thing in things:
            near[spots[thing]] = near[spots[thing]] | whole
    return sum([count_of(mask) - 1 for mask in near]) // 2


def lets_book(thing):
    """A checker: how many ties."""
    if not isinstance(thing, tuple) or len(thing) != 2:
        raise InvalidPaper("shape", -1)
    size, lists = thing
    if not is_integer(size) or size < 1:
        raise InvalidPaper("size", -1)
    if not isinstance(lists, tuple):
        raise InvalidPaper("lists", -1)
    for k, things in enumerate(lists):
        check_list(size, things, k)
    return tie_count(lists)
