"""Whose reasons the reasons of a merge are."""
from listbylist.errors import need
from listbylist.masks import leading_masks, near_masks
from listbylist.merging import least_common
from listbylist.reasons import reasons_of
from listbylist.ropekinds import is_rope
from listbylist.showing import is_shown
from listbylist.sortkinds import are_sortings


def places_showing(book, sortings, rope):
    """The ascending tuple of the indexes of the sortings that show the rope."""
    near = near_masks(book)
    return tuple([
        place for place, sorting in enumerate(sortings) if is_shown(near, leading_masks(book, sorting), rope)
    ])


def who_shows(book, sortings, rope):
    """The ascending tuple of the indexes of the sortings that show the rope."""
    need(are_sortings(book, sortings), "sortings")
    need(is_rope(book, rope), "rope")
    return places_showing(book, sortings, rope)


def merged_reasons(book, sortings):
    """A tuple of pairs, one for each reason of the least common one: the rope, and who shows it."""
    reasons = reasons_of(book, least_common(book, sortings))
    return tuple([(rope, places_showing(book, sortings, rope)) for rope in reasons])
