"""The ropes of which told ropes are pieces."""
from listbylist.errors import need
from listbylist.masks import near_masks
from listbylist.pieces import is_cut
from listbylist.ropekinds import is_ropes
from listbylist.ropelists import ropes_of


def above_of(book, ropes):
    """All ropes of which one of the passed ones is a piece, ascending."""
    need(is_ropes(book, ropes), "ropes")
    near = near_masks(book)
    return tuple([other for other in ropes_of(book) if any([is_cut(near, rope, other) for rope in ropes])])
