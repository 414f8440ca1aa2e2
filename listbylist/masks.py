"""Lots of things as the bits of one integer, and what leads where told by such masks.

A list with a mask for each thing tells to which things it leads; if both ways are told, which are tied.
"""


def mask_of(things):
    """The mask with just the bits of these things."""
    mask = 0
    for thing in things:
        mask = mask | (1 << thing)
    return mask


def things_of(mask):
    """The things whose bits are in the mask, ascending."""
    found = []
    left = mask
    while left:
        lowest = left & -left
        found.append(lowest.bit_length() - 1)
        left = left ^ lowest
    return tuple(found)


def first_of(mask):
    """The least thing of a mask that is not 0."""
    lowest = mask & -mask
    return lowest.bit_length() - 1


def count_of(mask):
    """How many things the mask has."""
    bits = f"{mask:b}"
    return bits.count("1")


def near_masks(book):
    """For each thing the mask of the things tied to it."""
    size, lists = book
    near = [0] * size
    for things in lists:
        whole = mask_of(things)
        for thing in things:
            near[thing] = near[thing] | (whole ^ (1 << thing))
    return near


def step_masks(size, ties):
    """For each thing the mask of the highs of the ties whose low it is."""
    out = [0] * size
    for low, high in ties:
        out[low] = out[low] | (1 << high)
    return out


def leading_masks(book, ties):
    """For each thing the mask of the things to which it leads if just these ties are turned."""
    near = near_masks(book)
    out = [(near[thing] >> thing) << thing for thing in range(book[0])]
    for low, high in ties:
        out[low] = out[low] ^ (1 << high)
        out[high] = out[high] | (1 << low)
    return out


def reach_masks(out):
    """For each thing the mask of the things to which a way leads from it."""
    reach = list(out)
    for middle in range(len(out)):
        for thing in range(len(out)):
            if reach[thing] >> middle & 1:
                reach[thing] = reach[thing] | reach[middle]
    return reach


def way_in(out, here, there):
    """A shortest way from here to there, which is unlike here; None if there is none."""
    came = {here: here}
    newest = [here]
    while newest and there not in came:
        reached = []
        for thing in newest:
            for other in things_of(out[thing]):
                if other not in came:
                    came[other] = thing
                    reached.append(other)
        newest = reached
    if there not in came:
        return None
    way = [there]
    while way[-1] != here:
        way.append(came[way[-1]])
    return tuple(way[::-1])


def ahead_behind(out, tie):
    """The ends of the tie, the one ahead first."""
    low, high = tie
    return (low, high) if out[low] >> high & 1 else (high, low)


def detour(out, tie):
    """A way of at least three things from the end ahead to the end behind; None if the tie is open."""
    ahead, behind = ahead_behind(out, tie)
    cut = list(out)
    cut[ahead] = cut[ahead] ^ (1 << behind)
    return way_in(cut, ahead, behind)


def blind_ends(out, left):
    """The mask of those things of left that lead to nothing of left."""
    return mask_of([thing for thing in things_of(left) if not out[thing] & left])


def round_in(out):
    """Things that lead in a round, each to the next one and the last one to the first, or None."""
    left = (1 << len(out)) - 1
    ends = blind_ends(out, left)
    while ends:
        left = left ^ ends
        ends = blind_ends(out, left)
    if not left:
        return None
    # Each thing left leads to one that is left, so this walk must come back to itself.
    walk = [first_of(left)]
    thing = first_of(out[walk[-1]] & left)
    while thing not in walk:
        walk.append(thing)
        thing = first_of(out[thing] & left)
    return tuple(walk[walk.index(thing):])


def line_in(out):
    """The first, as Python sorts, of the lines in which nothing leads to an earlier thing; out leads in no round."""
    left = list(range(len(out)))
    line = []
    while left:
        free = [thing for thing in left if not any([out[other] >> thing & 1 for other in left])]
        line.append(free[0])
        left = [thing for thing in left if thing != free[0]]
    return tuple(line)
