"""Sortings and the lines that fit them."""
from listbylist.books import ties_of
from listbylist.errors import need
from listbylist.kinds import is_line
from listbylist.masks import leading_masks, line_in
from listbylist.sortkinds import is_sorting


def fitted(book, line):
    """The sorting that the line fits, without a check of the line."""
    spots = {thing: k for k, thing in enumerate(line)}
    return tuple([(low, high) for low, high in ties_of(book) if spots[high] < spots[low]])


def sorting_of(book, line):
    """The sorting that the line fits."""
    need(is_line(book[0], line), "line")
    return fitted(book, line)


def fits_line(book, sorting, line):
    """True if the line fits the sorting."""
    need(is_sorting(book, sorting), "sorting")
    need(is_line(book[0], line), "line")
    return fitted(book, line) == sorting


def line_of(book, sorting):
    """The first, as Python sorts, of the lines that fit."""
    need(is_sorting(book, sorting), "sorting")
    return line_in(leading_masks(book, sorting))
