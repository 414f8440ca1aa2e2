"""What leads where at a sorting."""
from listbylist.bookkinds import is_thing
from listbylist.errors import need
from listbylist.masks import leading_masks, way_in
from listbylist.sortkinds import is_sorting


def need_two(book, sorting, here, there):
    """Raise NotUsable unless these are a sorting and two unlike things."""
    need(is_sorting(book, sorting), "sorting")
    need(is_thing(book, here), "here")
    need(is_thing(book, there) and there != here, "there")


def leads(book, sorting, here, there):
    """True if the two things are tied and here is ahead."""
    need_two(book, sorting, here, there)
    return (leading_masks(book, sorting)[here] >> there) & 1 == 1


def way_of(book, sorting, here, there):
    """Any way from here to there, or None if there is none."""
    need_two(book, sorting, here, there)
    return way_in(leading_masks(book, sorting), here, there)
