"""Sortings turned over, and sortings of other books made of sortings."""
from listbylist.bookchanges import rebased
from listbylist.bookkinds import is_book
from listbylist.books import ties_of
from listbylist.errors import need
from listbylist.kinds import is_line, is_lot
from listbylist.sortkinds import is_sorting
from listbylist.sortlines import fitted, line_of


def turned_over(book, sorting):
    """The sorting that turns just the other ties."""
    need(is_sorting(book, sorting), "sorting")
    return tuple([tie for tie in ties_of(book) if tie not in sorting])


def restricted(book, sorting, lot):
    """The sorting of kept_to(book, lot) at which of each tie the same thing is ahead as here."""
    need(is_sorting(book, sorting), "sorting")
    need(is_lot(book[0], lot) and len(lot) > 0, "lot")
    return tuple([(lot.index(low), lot.index(high)) for low, high in sorting if low in lot and high in lot])


def mirrored_sorting(book, sorting):
    """The sorting of mirrored(book) that turns a tie exactly if this one turns that of the same things."""
    need(is_sorting(book, sorting), "sorting")
    last = book[0] - 1
    return tuple(sorted([(last - high, last - low) for low, high in sorting]))


def rebased_sorting(book, sorting, line):
    """The sorting of rebased(book, line) at which of each tie the same thing is ahead as here."""
    need(is_sorting(book, sorting), "sorting")
    need(is_line(book[0], line), "line")
    numbers = {thing: k for k, thing in enumerate(line)}
    fitting = [numbers[thing] for thing in line_of(book, sorting)]
    return fitted(rebased(book, line), fitting)


def carried(book, sorting, other):
    """The sorting of other that line_of(book, sorting) fits."""
    need(is_sorting(book, sorting), "sorting")
    need(is_book(other) and other[0] == book[0], "other")
    return fitted(other, line_of(book, sorting))
