"""Ends and tops list by list."""
from listbylist.errors import need
from listbylist.fulllists import full_lists
from listbylist.kinds import is_below
from listbylist.listorders import is_order, orders_of, sorting_told
from listbylist.masks import near_masks
from listbylist.patternkinds import is_pattern
from listbylist.patternlots import tells
from listbylist.rungs import need_on
from listbylist.sortkinds import is_sorting


def alone_book(many):
    """A book of one list of so many things, or without lists if it is one."""
    return (many, (tuple(range(many)),) if many > 1 else ())


def cut_to(things, pattern):
    """The pattern with the ropes of which both ends are among the things, these numbered anew."""
    if pattern[0] in ("ropes", "above"):
        kept = [rope for rope in pattern[1] if rope[0] in things and rope[1] in things]
        # In a well jointed book a full list with both ends holds all that is between.
        ropes = [
            (things.index(low), things.index(high), tuple([things.index(thing) for thing in ahead]))
            for low, high, ahead in kept
        ]
        return (pattern[0], tuple(ropes))
    return pattern[:1] + tuple([cut_to(things, part) if isinstance(part, tuple) else part for part in pattern[1:]])


def told_place(near, pattern, line, falls):
    """The first place at which the line falls, or, if falls is False, rises by a told rope to the next; or None."""
    for k in range(len(line) - 1):
        if (line[k] > line[k + 1]) == falls:
            low, high = sorted(line[k:k + 2])
            ahead = sorted([thing for thing in line[:k] if low < thing and thing < high])
            if tells(near, pattern, (low, high, tuple(ahead))):
                return k
    return None


def led_line(near, pattern, line, falls):
    """The line in which no two neighbours fall, or, if falls is False, rise by a told rope any more."""
    reached = line
    k = told_place(near, pattern, reached, falls)
    while k is not None:
        reached = reached[:k] + (reached[k + 1], reached[k]) + reached[k + 2:]
        k = told_place(near, pattern, reached, falls)
    return reached


def led_order(things, pattern, order, falls):
    """The end, or, if falls is False, the top of an order of a full list."""
    near = near_masks(alone_book(len(things)))
    line = tuple([things.index(thing) for thing in order])
    return tuple([things[k] for k in led_line(near, cut_to(things, pattern), line, falls)])


def lines_of(many):
    """All lines of so many things, ascending."""
    lines = [()]
    for thing in range(many):
        lines = [line[:k] + (thing,) + line[k:] for line in lines for k in range(len(line) + 1)]
    return sorted(lines)


def end_lines(many, pattern):
    """The lines of a full list of so many things by itself that are ends by its pattern, ascending."""
    near = near_masks(alone_book(many))
    return [line for line in lines_of(many) if told_place(near, pattern, line, True) is None]


def list_at(book, place):
    """The full list at place, which is checked."""
    lists = full_lists(book)
    need(is_below(len(lists), place), "place")
    return lists[place]


def list_book(book, place):
    """The full list as a book by itself."""
    return alone_book(len(list_at(book, place)))


def cut_pattern(book, place, pattern):
    """The pattern of list_book with the same words and numbers."""
    things = list_at(book, place)
    need(is_pattern(book, pattern), "pattern")
    return cut_to(things, pattern)


def list_ends(book, place, pattern):
    """The orders of the full list that are ends, an ascending tuple."""
    things = list_at(book, place)
    need(is_pattern(book, pattern), "pattern")
    need_on(book, pattern, "greatest")
    lines = end_lines(len(things), cut_to(things, pattern))
    return tuple([tuple([things[k] for k in line]) for line in lines])


def end_order(book, place, order, pattern):
    """The end of the order of a full list."""
    things = list_at(book, place)
    need(is_order(things, order), "order")
    need(is_pattern(book, pattern), "pattern")
    need_on(book, pattern, "greatest")
    return led_order(things, pattern, order, True)


def led_by_lists(book, sorting, pattern, falls):
    """The sorting at which the order of each full list is the end, or the top, of its order at the given one."""
    orders = orders_of(book, sorting)
    led = [led_order(things, pattern, orders[place], falls) for place, things in enumerate(full_lists(book))]
    return sorting_told(book, tuple(led))


def end_by_lists(book, sorting, pattern):
    """The sorting at which the order of each full list is the end of its order at the given one."""
    need(is_sorting(book, sorting), "sorting")
    need(is_pattern(book, pattern), "pattern")
    need_on(book, pattern, "greatest")
    return led_by_lists(book, sorting, pattern, True)


def top_by_lists(book, sorting, pattern):
    """Likewise with tops."""
    need(is_sorting(book, sorting), "sorting")
    need(is_pattern(book, pattern), "pattern")
    need_on(book, pattern, "least")
    return led_by_lists(book, sorting, pattern, False)
