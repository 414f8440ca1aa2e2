"""Undoing that ends unlike."""
from listbylist.errors import InvalidPaper, need
from listbylist.evens import uneven_pair
from listbylist.exchanging import flipped
from listbylist.patternkinds import is_pattern
from listbylist.reasons import sorting_by_reasons
from listbylist.sortkinds import is_sorting
from listbylist.undoing import first_steps, told_falls, undone_by


def steps_by(book, sorting, pattern, wanted):
    """Steps down to an end that exchange the wanted ties first, as far as they are told falls."""
    steps = ()
    reached = sorting
    for tie in wanted:
        if tie in told_falls(book, reached, pattern):
            steps = steps + (tie,)
            reached = flipped(reached, tie)
    return steps + first_steps(book, reached, pattern)[0]


def unlike_ends(book, pattern):
    """None if the pattern is even, else any paper of a sorting from which undoing ends unlike."""
    pair = uneven_pair(book, pattern)
    if pair is None:
        return None
    (low, middle, _), (_, high, _) = pair
    sorting = sorting_by_reasons(book, pair)
    # Behind either fall, (low, high) is a fall by one side: where that is not told, the tie stays
    # turned and middle stays on its side of it, whatever else is undone.
    below = steps_by(book, sorting, pattern, ((low, middle), (low, high)))
    above = steps_by(book, sorting, pattern, ((middle, high), (low, high)))
    return (sorting, below, above)


def end_by(book, sorting, pattern, steps, word):
    """The end of these steps; InvalidPaper with this word if they do not undo the sorting down to one."""
    if not isinstance(steps, tuple):
        raise InvalidPaper(word, -1)
    reached, wrong = undone_by(book, sorting, pattern, steps)
    if wrong is not None:
        raise InvalidPaper(word, wrong)
    if told_falls(book, reached, pattern):
        raise InvalidPaper(word, -1)
    return reached


def lets_unlike(book, pattern, thing):
    """A checker of such papers: the pair of the two ends."""
    need(is_pattern(book, pattern), "pattern")
    if not isinstance(thing, tuple) or len(thing) != 3:
        raise InvalidPaper("shape", -1)
    sorting, first, second = thing
    if not is_sorting(book, sorting):
        raise InvalidPaper("sorting", -1)
    ends = (end_by(book, sorting, pattern, first, "first"), end_by(book, sorting, pattern, second, "second"))
    if ends[0] == ends[1]:
        raise InvalidPaper("same", -1)
    return ends
