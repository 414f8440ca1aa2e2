"""Full lists and what they share."""
from listbylist.errors import need
from listbylist.kinds import is_below, is_lot
from listbylist.masks import near_masks, things_of


def full_lists(book):
    """All full lists, ascending."""
    near = near_masks(book)
    found = []
    # Each lot of things tied to one another is grown by greater things, so that it comes up once;
    # common are the things tied to all of it.
    grown = [((thing,), near[thing]) for thing in range(book[0])]
    while grown:
        found.extend([lot for lot, common in grown if not common])
        grown = [
            (lot + (more,), common & near[more])
            for lot, common in grown
            for more in things_of(common)
            if more > lot[-1]
        ]
    return tuple(sorted(found))


def is_full(book, thing):
    """True if thing is a full list."""
    return is_lot(book[0], thing) and thing in full_lists(book)


def full_with(book, lot):
    """The places of the full lists that hold all of the lot."""
    need(is_lot(book[0], lot), "lot")
    places = [
        place for place, things in enumerate(full_lists(book)) if all([thing in things for thing in lot])
    ]
    return tuple(places)


def shared_by(book, place, other):
    """The lot of the things that both full lists hold."""
    lists = full_lists(book)
    need(is_below(len(lists), place), "place")
    need(is_below(len(lists), other) and other != place, "other")
    return tuple([thing for thing in lists[place] if thing in lists[other]])
