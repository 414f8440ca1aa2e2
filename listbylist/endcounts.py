"""How many ends there are, counted along the tree of the full lists."""
from listbylist.errors import need
from listbylist.fulllists import full_lists
from listbylist.kinds import is_lot
from listbylist.listends import end_lines, list_at
from listbylist.listtrees import list_tree
from listbylist.patternkinds import is_plain


def rooted(tree, many):
    """Pairs of a place and the place above it in the tree, or None; none comes ahead of the one above it."""
    above = {}
    for root in range(many):
        if root not in above:
            above[root] = None
            newest = [root]
            while newest:
                place = newest.pop()
                for other in [sum(pair) - place for pair in tree if place in pair]:
                    if other not in above:
                        above[other] = place
                        newest.append(other)
    return list(above.items())


def told_in(order, lot):
    """The sequence in which the order has the things of the lot."""
    return tuple([thing for thing in order if thing in lot])


def counts_by(weights, lot):
    """How many orders, each counted as its weight tells, have each sequence of the lot's things."""
    counts = {}
    for order, weight in weights.items():
        sequence = told_in(order, lot)
        counts[sequence] = counts.get(sequence, 0) + weight
    return counts


def end_weights(lists, pattern):
    """For each full list a dict with its ends by a plain pattern as keys, each of weight 1."""
    # What is plain is cut to the same pattern in each list, so lists of one length have the same ends.
    lines = {many: end_lines(many, pattern) for many in sorted(set([len(things) for things in lists]))}
    return [{tuple([things[k] for k in line]): 1 for line in lines[len(things)]} for things in lists]


def weighed(weights, counts, lot):
    """The weights, each multiplied by the count of the sequence of the lot's things."""
    return {order: weight * counts.get(told_in(order, lot), 0) for order, weight in weights.items()}


def ends_count(book, pattern):
    """How many sortings are ends."""
    need(is_plain(book, pattern), "pattern")
    lists = full_lists(book)
    weights = end_weights(lists, pattern)
    total = 1
    for place, above in rooted(list_tree(book), len(lists))[::-1]:
        if above is None:
            total = total * sum(list(weights[place].values()))
        else:
            shared = [thing for thing in lists[place] if thing in lists[above]]
            weights[above] = weighed(weights[above], counts_by(weights[place], shared), shared)
    return total


def seam_counts(book, place, lot, pattern):
    """Each sequence in which ends of the full list have the lot's things, and how many have it, ascending."""
    things = list_at(book, place)
    need(is_lot(book[0], lot) and all([thing in things for thing in lot]), "lot")
    need(is_plain(book, pattern), "pattern")
    counts = counts_by(end_weights((things,), pattern)[0], lot)
    return tuple(sorted(list(counts.items())))
