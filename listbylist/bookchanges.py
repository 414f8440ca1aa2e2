"""Other books made of books."""
from listbylist.bookkinds import is_book
from listbylist.errors import need
from listbylist.kinds import are_unlike_below, is_below, is_line, is_lot


def kept_to(book, lot):
    """The book kept to the lot, which is not ()."""
    need(is_lot(book[0], lot) and len(lot) > 0, "lot")
    kept = [tuple([lot.index(thing) for thing in things if thing in lot]) for things in book[1]]
    return (len(lot), tuple([things for things in kept if len(things) >= 2]))


def with_list(book, things):
    """The book with one list more: things, written ascending, comes last."""
    size, lists = book
    need(are_unlike_below(size, things) and len(things) >= 2, "things")
    return (size, lists + (tuple(sorted(things)),))


def without_list(book, listed):
    """The book without its own list at listed."""
    size, lists = book
    need(is_below(len(lists), listed), "listed")
    return (size, lists[:listed] + lists[listed + 1:])


def beside(book, other):
    """Both books as one: the things and lists of other come last."""
    need(is_book(other), "other")
    size = book[0]
    moved = tuple([tuple([size + thing for thing in things]) for things in other[1]])
    return (size + other[0], book[1] + moved)


def renumbered(book, line):
    """The book in which thing line[i] has the number i."""
    numbers = {thing: k for k, thing in enumerate(line)}
    return (book[0], tuple([tuple(sorted([numbers[thing] for thing in things])) for things in book[1]]))


def rebased(book, line):
    """Thing line[i] gets the number i."""
    need(is_line(book[0], line), "line")
    return renumbered(book, line)


def mirrored(book):
    """Thing x gets the number size - 1 - x."""
    return renumbered(book, list(reversed(range(book[0]))))
