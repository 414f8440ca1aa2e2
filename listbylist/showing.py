"""Which ropes a sorting shows."""
from listbylist.bookkinds import is_tie
from listbylist.books import between_in
from listbylist.errors import need
from listbylist.masks import leading_masks, near_masks, things_of
from listbylist.ropekinds import behind_in, is_rope
from listbylist.sortkinds import is_sorting


def leads_to_both(out, thing, low, high):
    """True if thing leads to both ends."""
    return out[thing] >> low & out[thing] >> high & 1 == 1


def ahead_in(near, out, low, high):
    """The lot of the things between the ends that are ahead of both, told what is near and what leads where."""
    return tuple([thing for thing in between_in(near, low, high) if leads_to_both(out, thing, low, high)])


def is_shown(near, out, rope):
    """True if what leads where shows the rope."""
    low, high, ahead = rope
    # Of two things that are tied the one does not lead to the other exactly if it is behind it.
    behind = behind_in(near, rope)
    return (
        out[high] >> low & 1 == 1
        and all([leads_to_both(out, thing, low, high) for thing in ahead])
        and not any([(out[thing] >> low | out[thing] >> high) & 1 for thing in behind])
    )


def shows(book, sorting, rope):
    """True if the sorting shows the rope."""
    need(is_sorting(book, sorting), "sorting")
    need(is_rope(book, rope), "rope")
    return is_shown(near_masks(book), leading_masks(book, sorting), rope)


def shown_at(near, out, tie):
    """The rope of this tie that what leads where shows, or None."""
    low, high = tie
    rope = (low, high, ahead_in(near, out, low, high))
    return rope if is_shown(near, out, rope) else None


def open_ropes(near, out, turned):
    """The ropes of the falls, or, if turned is False, of the rises, ascending, in a book without a bare ring."""
    found = []
    for low in range(len(near)):
        for high in things_of((near[low] >> low) << low):
            ahead, behind = (high, low) if turned else (low, high)
            # There a tie is open exactly if nothing that the end ahead leads to leads to the end behind.
            if out[ahead] >> behind & 1 and not out[ahead] & near[behind] & ~out[behind]:
                found.append((low, high, ahead_in(near, out, low, high)))
    return tuple(found)


def rope_at(book, sorting, tie):
    """The rope of this tie that the sorting shows, or None."""
    need(is_sorting(book, sorting), "sorting")
    need(is_tie(book, tie), "tie")
    return shown_at(near_masks(book), leading_masks(book, sorting), tie)
