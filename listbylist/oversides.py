"""What a rung asks where one rope is told."""
from listbylist.choices import asked_with
from listbylist.errors import need
from listbylist.masks import near_masks
from listbylist.ropekinds import is_rope
from listbylist.rungs import is_sided


def over_ropes(book, rope, rung):
    """The ropes, ascending, that the rung asks where this one is told."""
    need(is_rope(book, rope), "rope")
    need(is_sided(rung), "rung")
    return asked_with(near_masks(book), rope, rung)
