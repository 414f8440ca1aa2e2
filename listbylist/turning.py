"""The turn of a sorting: reasons become rise reasons."""
from listbylist.reasons import reasons_of, sorting_by_reasons
from listbylist.rising import rise_reasons, sorting_by_rises


def turn_of(book, sorting):
    """The sorting whose rise reasons are the reasons of this one."""
    return sorting_by_rises(book, reasons_of(book, sorting))


def turn_back(book, sorting):
    """The sorting whose reasons are the rise reasons of this one."""
    return sorting_by_reasons(book, rise_reasons(book, sorting))


def turn_round(book, sorting):
    """The sorting, its turn, and so on, until the sorting would come again."""
    found = [sorting]
    turned = turn_of(book, sorting)
    while turned != sorting:
        found.append(turned)
        turned = turn_of(book, turned)
    return tuple(found)
