"""Pairs of sortings without a least common one, and papers that show it."""
from listbylist.alls import are_turned
from listbylist.bookkinds import are_tied
from listbylist.books import ties_of
from listbylist.closures import closed, turned_by_some
from listbylist.errors import InvalidPaper
from listbylist.kinds import are_unlike_below
from listbylist.leasts import loop_of
from listbylist.masks import line_in, reach_masks, step_masks, things_of, way_in
from listbylist.sortkinds import is_sorting
from listbylist.sortlines import fitted
from listbylist.stepping import need_both
from listbylist.unfits import ring_pair


def shortest_round(out):
    """A shortest round of things, each leading to the next one, or None; none leads to itself."""
    rounds = []
    for here in range(len(out)):
        ways = [way_in(out, there, here) for there in things_of(out[here])]
        rounds.extend([(len(way), way) for way in ways if way is not None])
    return min(rounds)[1] if rounds else None


def hop_masks(ups, reach):
    """For each thing the mask of what is reached from it by one step up and any number of steps down."""
    hops = []
    for raised in ups:
        mask = raised
        for thing in things_of(raised):
            mask = mask | reach[thing]
        hops.append(mask)
    return hops


def hop_way(ups, downs, here, there):
    """The way of a hop from here to there: one step up, then steps down."""
    if ups[here] >> there & 1:
        return (here, there)
    ways = [way_in(downs, up, there) for up in things_of(ups[here])]
    return (here,) + [way for way in ways if way is not None][0]


def sorting_with(book, downs, steps):
    """A sorting at which all that leads down, and each of these steps up, leads so."""
    out = [downs[thing] | more for thing, more in enumerate(step_masks(book[0], steps))]
    return fitted(book, line_in(out))


def unmerged_paper(book, sorting, other):
    """None if the two have a least common one, else any triple (one, another, ring) that shows they have none."""
    need_both(book, sorting, other)
    turned = turned_by_some((sorting, other))
    closure = closed(book, turned)
    downs = step_masks(book[0], [(high, low) for low, high in turned])
    ups = step_masks(book[0], [tie for tie in ties_of(book) if tie not in closure])
    # A hop is one step up and then steps down; one hop alone leads in no round, since its step up is not in the
    # closure. In a round with the fewest hops, only some of the steps up lead in no round either, so that one
    # sorting can keep the first of them, another one the others.
    hops = shortest_round(hop_masks(ups, reach_masks(downs)))
    if hops is None:
        return None
    ways = [hop_way(ups, downs, hops[k - 1], hops[k]) for k in range(len(hops))]
    steps = [way[:2] for way in ways]
    ring = [thing for way in ways for thing in way[:-1]]
    return (sorting_with(book, downs, steps[:1]), sorting_with(book, downs, steps[1:]), tuple(ring))


def must_lead(book, beneath, above, here, there):
    """True if here leads to there at each sorting that is above those beneath and beneath those above."""
    if here > there:
        return any([(there, here) in one for one in beneath])
    return are_tied(book, here, there) and not all([(here, there) in one for one in above])


def lets_unmerged(book, sorting, other, thing):
    """A checker of such triples: how many things the ring has."""
    need_both(book, sorting, other)
    if not isinstance(thing, tuple) or len(thing) != 3:
        raise InvalidPaper("shape", -1)
    above, ring = thing[:2], thing[2]
    for k, one in enumerate(above):
        if not is_sorting(book, one):
            raise InvalidPaper("sorting", k)
        if not are_turned(sorting, one) or not are_turned(other, one):
            raise InvalidPaper("above", k)
    if not are_unlike_below(book[0], ring) or len(ring) < 3:
        raise InvalidPaper("ring", -1)
    beneath = (sorting, other)
    if not all([must_lead(book, beneath, above, ring[k - 1], ring[k]) for k in range(len(ring))]):
        raise InvalidPaper("ring", -1)
    return len(ring)


def unmerged_pair(book):
    """None if every two sortings have a least common one, else any pair of sortings that has none."""
    paper = loop_of(book)
    if paper is None:
        return None
    if paper[0] == "loop":
        return ring_pair(book, paper[1])
    return ring_pair(book, paper[1] + paper[2][-2:0:-1])
