"""Which ropes a sorting shows."""
from listbylist.bookkinds import is_tie
from listbylist.books import between_in
from listbylist.errors import need
from listbylist.masks import leading_masks, near_masks
from listbylist.ropekinds import behind_in, is_rope
from listbylist.sortkinds import is_sorting


def leads_to_both(out, thing, low, high):
    """True if thing leads to both ends."""
    return out[thing] >> low & out[thing] >> high & 1 == 1


def ahead_in(near, out, low, high):
    """The lot of the things between the ends that are ahead of both, told what is near and what leads where."""
    return tuple([thing for thing in between_in(near, low, high) if leads_to_both(out, thing, low, high)])


def is_shown(near, out, rope):
    """True if what leads where shows the rope."""
    low, high, ahead = rope
    # Of two things that are tied the one does not lead to the other exactly if it is behind it.
    behind = behind_in(near, rope)
    return (
        out[high] >> low & 1 == 1
        and all([leads_to_both(out, thing, low, high) for thing in ahead])
        and not any([(out[thing] >> low | out[thing] >> high) & 1 for thing in behind])
    )


def shows(book, sorting, rope):
    """True if the sorting shows the rope."""
    need(is_sorting(book, sorting), "sorting")
    need(is_rope(book, rope), "rope")
    return is_shown(near_masks(book), leading_masks(book, sorting), rope)


def shown_at(near, out, tie):
    """The rope of this tie that what leads where shows, or None."""
    low, high = tie
    rope = (low, high, ahead_in(near, out, low, high))
    return rope if is_shown(near, out, rope) else None


def rope_at(book, sorting, tie):
    """The rope of this tie that the sorting shows, or None."""
    need(is_sorting(book, sorting), "sorting")
    need(is_tie(book, tie), "tie")
    return shown_at(near_masks(book), leading_masks(book, sorting), tie)
