"""Trees of the full lists."""
from listbylist.errors import BareRing, InvalidPaper
from listbylist.fulllists import full_lists
from listbylist.kinds import is_lot
from listbylist.masks import count_of, mask_of
from listbylist.taking import ring_of


def joined(groups, place, other):
    """The groups of places with those of both of these made one."""
    return [groups[place] if group == groups[other] else group for group in groups]


def most_shared_first(masks):
    """All pairs of places that share a thing, those that share most first."""
    pairs = [
        (-count_of(masks[place] & masks[other]), place, other)
        for other in range(len(masks))
        for place in range(other)
        if masks[place] & masks[other]
    ]
    return [(place, other) for _, place, other in sorted(pairs)]


def list_tree(book):
    """Any tree of the full lists."""
    ring = ring_of(book)
    if ring is not None:
        raise BareRing(ring)
    masks = [mask_of(things) for things in full_lists(book)]
    groups = list(range(len(masks)))
    tree = []
    # Without a bare ring, pairs that share as much as can be join the lists of each thing.
    for place, other in most_shared_first(masks):
        if groups[place] != groups[other]:
            tree.append((place, other))
            groups = joined(groups, place, other)
    return tuple(sorted(tree))


def check_pair(masks, thing, k):
    """Raise InvalidPaper if element k is no pair of lists that share a thing, or not in sequence."""
    pair = thing[k]
    if not is_lot(len(masks), pair) or len(pair) != 2 or not masks[pair[0]] & masks[pair[1]]:
        raise InvalidPaper("pair", k)
    if k > 0 and pair <= thing[k - 1]:
        raise InvalidPaper("sequence", k)


def check_joined(masks, tree, x):
    """Raise InvalidPaper unless pairs of the tree join all lists with thing x."""
    holding = [place for place in range(len(masks)) if masks[place] >> x & 1]
    pairs = [pair for pair in tree if pair[0] in holding and pair[1] in holding]
    # The pairs close no ring: they join these lists exactly if there is one pair less than lists.
    if len(pairs) != len(holding) - 1:
        raise InvalidPaper("apart", x)


def lets_tree(book, thing):
    """A checker: how many pairs."""
    if not isinstance(thing, tuple):
        raise InvalidPaper("shape", -1)
    masks = [mask_of(things) for things in full_lists(book)]
    groups = list(range(len(masks)))
    for k in range(len(thing)):
        check_pair(masks, thing, k)
        place, other = thing[k]
        if groups[place] == groups[other]:
            raise InvalidPaper("ring", k)
        groups = joined(groups, place, other)
    for x in range(book[0]):
        check_joined(masks, thing, x)
    return len(thing)
