"""Exchanges one after the other."""
from listbylist.bookkinds import is_tie
from listbylist.errors import InvalidPaper, need
from listbylist.exchanging import flipped, stepped_by
from listbylist.masks import detour, leading_masks
from listbylist.sortkinds import is_sorting


def need_both(book, sorting, other):
    """Raise NotUsable unless both are sortings."""
    need(is_sorting(book, sorting), "sorting")
    need(is_sorting(book, other), "other")


def unlike_ties(sorting, other):
    """The ties that just one of the two turns, ascending."""
    one = [tie for tie in sorting if tie not in other]
    return tuple(sorted(one + [tie for tie in other if tie not in sorting]))


def differing(book, sorting, other):
    """The ties that just one of the two sortings turns, an ascending tuple."""
    need_both(book, sorting, other)
    return unlike_ties(sorting, other)


def steps_between(book, sorting, other):
    """Any tuple of ties, as few as can be, that lead from sorting to other."""
    need_both(book, sorting, other)
    steps = []
    reached = sorting
    left = list(unlike_ties(sorting, other))
    # Of the ties on which two sortings differ some one is always open, so none but these is exchanged.
    while left:
        out = leading_masks(book, reached)
        step = [tie for tie in left if detour(out, tie) is None][0]
        steps.append(step)
        reached = flipped(reached, step)
        left = [tie for tie in left if tie != step]
    return tuple(steps)


def stepped(book, sorting, steps):
    """The sorting behind these exchanges."""
    need(is_sorting(book, sorting), "sorting")
    need(isinstance(steps, tuple) and all([is_tie(book, tie) for tie in steps]), "steps")
    reached = sorting
    for tie in steps:
        reached = stepped_by(book, reached, tie)
    return reached


def lets_steps(book, sorting, other, thing):
    """A checker of such steps from sorting to other: how many."""
    need_both(book, sorting, other)
    if not isinstance(thing, tuple):
        raise InvalidPaper("shape", -1)
    reached = sorting
    for k, tie in enumerate(thing):
        if not is_tie(book, tie):
            raise InvalidPaper("tie", k)
        if detour(leading_masks(book, reached), tie) is not None:
            raise InvalidPaper("open", k)
        reached = flipped(reached, tie)
    if reached != other:
        raise InvalidPaper("end", -1)
    return len(thing)
