"""Which ropes a pattern tells."""
from listbylist.errors import need
from listbylist.masks import near_masks
from listbylist.patternkinds import is_pattern
from listbylist.pieces import is_cut
from listbylist.ropekinds import behind_in, is_rope, middle_in
from listbylist.ropelists import ropes_of


def counted(near, word, rope):
    """How many things the rope has between its ends, or how many of them ahead or behind."""
    if word == "ahead":
        return len(rope[2])
    return len(middle_in(near, rope) if word == "amid" else behind_in(near, rope))


def tells(near, pattern, rope):
    """True if the pattern tells the rope, told which things are near."""
    word, parts = pattern[0], pattern[1:]
    if word in ("all", "none"):
        return word == "all"
    if word == "ropes":
        return rope in parts[0]
    if word == "above":
        return any([is_cut(near, piece, rope) for piece in parts[0]])
    if word in ("amid", "ahead", "behind"):
        return counted(near, word, rope) >= parts[0]
    told = [tells(near, part, rope) for part in parts]
    if word == "not":
        return not told[0]
    return all(told) if word == "both" else any(told)


def in_pattern(book, pattern, rope):
    """True if the pattern tells the rope."""
    need(is_pattern(book, pattern), "pattern")
    need(is_rope(book, rope), "rope")
    return tells(near_masks(book), pattern, rope)


def told_ropes(book, pattern):
    """All ropes that the pattern tells, ascending, without a check of the pattern."""
    near = near_masks(book)
    return tuple([rope for rope in ropes_of(book) if tells(near, pattern, rope)])


def told_map(book, pattern):
    """A dict with just the ropes that the pattern tells as its keys, ascending."""
    return {rope: True for rope in told_ropes(book, pattern)}


def pattern_ropes(book, pattern):
    """All ropes that the pattern tells, ascending."""
    need(is_pattern(book, pattern), "pattern")
    return told_ropes(book, pattern)
