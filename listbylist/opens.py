"""Open ties, and what bars a tie."""
from listbylist.bookkinds import is_tie
from listbylist.books import ties_of
from listbylist.errors import need
from listbylist.masks import ahead_behind, detour, leading_masks
from listbylist.sortkinds import is_sorting


def open_ties(book, sorting):
    """The open ties, an ascending tuple."""
    need(is_sorting(book, sorting), "sorting")
    out = leading_masks(book, sorting)
    return tuple([tie for tie in ties_of(book) if detour(out, tie) is None])


def falls_of(book, sorting):
    """The falls, likewise."""
    return tuple([tie for tie in open_ties(book, sorting) if tie in sorting])


def rises_of(book, sorting):
    """The rises, likewise."""
    return tuple([tie for tie in open_ties(book, sorting) if tie not in sorting])


def bars_of(book, sorting, tie):
    """The lot of the things that stand between the ends of the tie."""
    need(is_sorting(book, sorting), "sorting")
    need(is_tie(book, tie), "tie")
    out = leading_masks(book, sorting)
    ahead, behind = ahead_behind(out, tie)
    return tuple([thing for thing in range(book[0]) if out[ahead] >> thing & 1 and out[thing] >> behind & 1])
