"""All sortings, and which is beneath which."""
from listbylist.books import ties_of
from listbylist.errors import need
from listbylist.sortkinds import is_sorting


def are_turned(ties, sorting):
    """True if the sorting turns all of these ties."""
    return all([tie in sorting for tie in ties])


def is_beneath(book, sorting, other):
    """True if sorting is beneath other."""
    need(is_sorting(book, sorting), "sorting")
    need(is_sorting(book, other), "other")
    return are_turned(sorting, other)


def led_too(reach, ahead, behind):
    """What ways reach where, as masks, when ahead leads to behind, too."""
    more = reach[behind] | (1 << behind)
    return [
        mask | more if thing == ahead or mask >> ahead & 1 else mask for thing, mask in enumerate(reach)
    ]


def both_ways(turned, reach, tie):
    """The pairs (turned, reach) behind this tie, as it is and turned, that lead in no round."""
    low, high = tie
    found = []
    if not reach[high] >> low & 1:
        found.append((turned, led_too(reach, low, high)))
    if not reach[low] >> high & 1:
        found.append((turned + (tie,), led_too(reach, high, low)))
    return found


def sortings_in(book):
    """The list of all sortings, ascending."""
    grown = [((), [0] * book[0])]
    # Ties that lead in no round can always be completed, so no more come up than there are sortings.
    for tie in ties_of(book):
        grown = [pair for turned, reach in grown for pair in both_ways(turned, reach, tie)]
    return sorted([turned for turned, _ in grown])


def all_sortings(book):
    """A generator of all sortings, ascending."""
    for sorting in sortings_in(book):
        yield sorting
