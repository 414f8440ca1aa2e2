"""Taking things out, and bare rings."""
from listbylist.errors import BareRing
from listbylist.kinds import are_unlike_below
from listbylist.masks import mask_of, near_masks, things_of, way_in


def can_go(near, thing, left):
    """True if the things of left tied to thing are all tied to one another."""
    around = near[thing] & left
    return all([(around & ~near[other]) == (1 << other) for other in things_of(around)])


def first_to_go(near, left):
    """The least thing of left that can go, or None."""
    for thing in things_of(left):
        if can_go(near, thing, left):
            return thing
    return None


def taken_out(near):
    """The pair of the things as they are taken out and the mask of those that can't be."""
    left = (1 << len(near)) - 1
    taken = []
    thing = first_to_go(near, left)
    while thing is not None:
        taken.append(thing)
        left = left ^ (1 << thing)
        thing = first_to_go(near, left)
    return tuple(taken), left


def taking_of(book):
    """The tuple of all things as they are taken out, each time the least one that can go."""
    taken, left = taken_out(near_masks(book))
    if left:
        raise BareRing(ring_of(book))
    return taken


def ring_through(near, left, thing):
    """A bare ring of things of left that begins with thing, or None."""
    around = things_of(near[thing] & left)
    outside = left & ~near[thing] & ~(1 << thing)
    for k, here in enumerate(around):
        for there in around[:k]:
            if not near[here] >> there & 1:
                # A shortest way that is not near thing, but for its ends, has no tie across.
                room = outside | (1 << here) | (1 << there)
                way = way_in([mask & room for mask in near], here, there)
                if way is not None:
                    return (thing,) + way
    return None


def ring_of(book):
    """None if there is no bare ring, else any of them."""
    near = near_masks(book)
    # No thing of a bare ring can go while the others are left, so all bare rings are among what is left.
    left = taken_out(near)[1]
    for thing in things_of(left):
        ring = ring_through(near, left, thing)
        if ring is not None:
            return ring
    return None


def is_bare_ring(book, thing):
    """True if thing is a bare ring."""
    if not are_unlike_below(book[0], thing) or len(thing) < 4:
        return False
    near = near_masks(book)
    whole = mask_of(thing)
    beside_it = [mask_of((thing[k - 1], thing[(k + 1) % len(thing)])) for k in range(len(thing))]
    return all([(near[one] & whole) == beside_it[k] for k, one in enumerate(thing)])
