"""The choices of two end ropes, and what a rung asks where a pattern tells one of them."""
from listbylist.books import between_in
from listbylist.masks import things_of
from listbylist.ropelists import lots_of


def sides_by(rope, other):
    """The middle-ahead and the middle-behind rope of the choice with these end ropes, the low one first."""
    low, middle, below = rope
    _, high, above = other
    # In a well jointed book what is between low and high is middle, or between one of them and middle.
    return ((low, high, below + (middle,) + above), (low, high, below + above))


def choices_with(near, rope):
    """The pairs of the low and the high end rope of all choices of which rope is an end rope."""
    low, high, _ = rope
    both = things_of(near[low] & near[high])
    beyond = [thing for thing in both if thing > high]
    beneath = [thing for thing in both if thing < low]
    pairs = [(rope, (high, end, lot)) for end in beyond for lot in lots_of(between_in(near, high, end))]
    return pairs + [((end, low, lot), rope) for end in beneath for lot in lots_of(between_in(near, end, low))]


def asked_by(rope, pair, rung):
    """What the rung, which is not "even", asks where rope, one of this pair of end ropes, is told."""
    sides = sides_by(pair[0], pair[1])
    if rung == "closed":
        return sides
    # "greatest" asks the middle ahead with the low end rope and behind with the high one, "least" the opposite.
    return sides[:1] if (rope == pair[0]) == (rung == "greatest") else sides[1:]


def asked_with(near, rope, rung):
    """The ropes that the rung, which is not "even", asks where this one is told, ascending."""
    asked = [side for pair in choices_with(near, rope) for side in asked_by(rope, pair, rung)]
    return tuple(sorted(asked))
