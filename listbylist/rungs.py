"""The rungs, and whether a pattern is on them."""
from listbylist.choices import asked_with, sides_by
from listbylist.errors import OffRung, need
from listbylist.evens import first_uneven
from listbylist.masks import near_masks
from listbylist.patternkinds import has_plain_words, is_pattern
from listbylist.patternlots import told_map

RUNGS = ("even", "greatest", "least", "closed")


def is_rung(thing):
    """True if thing is one of the four words."""
    return isinstance(thing, str) and thing in RUNGS


def is_sided(thing):
    """True if thing is a rung that asks something with one end rope, whatever the other one is."""
    return is_rung(thing) and thing != "even"


def uneven_fault(book, told):
    """What the told ropes, a dict, lack on the rung "even", as rung_fault tells it; None if nothing."""
    pair = first_uneven(book, told)
    if pair is None:
        return None
    lacking = [side for side in sides_by(pair[0], pair[1]) if side not in told]
    return (pair, lacking[0])


def fault_in(book, told, rung):
    """What the told ropes, a dict, lack on the rung, as rung_fault tells it; None if nothing."""
    if rung == "even":
        return uneven_fault(book, told)
    near = near_masks(book)
    for rope in told:
        for missing in asked_with(near, rope, rung):
            if missing not in told:
                return ((rope,), missing)
    return None


def fault_of(book, pattern, rung):
    """What rung_fault returns, without a check of the parameters."""
    # Plain patterns are on every rung, also where there are too many ropes to go through them.
    if has_plain_words(pattern):
        return None
    return fault_in(book, told_map(book, pattern), rung)


def need_on(book, pattern, rung):
    """Raise OffRung unless the pattern, which is one, is on the rung."""
    fault = fault_of(book, pattern, rung)
    if fault is not None:
        raise OffRung(rung, fault[0], fault[1])


def need_both_stated(book, pattern, rung):
    """Raise NotUsable unless these are a pattern and a rung."""
    need(is_pattern(book, pattern), "pattern")
    need(is_rung(rung), "rung")


def on_rung(book, pattern, rung):
    """True if the pattern is on the rung."""
    need_both_stated(book, pattern, rung)
    return fault_of(book, pattern, rung) is None


def rungs_of(book, pattern):
    """The tuple of the rungs on which the pattern is, in their sequence."""
    need(is_pattern(book, pattern), "pattern")
    if has_plain_words(pattern):
        return RUNGS
    told = told_map(book, pattern)
    return tuple([rung for rung in RUNGS if fault_in(book, told, rung) is None])


def rung_fault(book, pattern, rung):
    """None if the pattern is on the rung; else any pair of what it tells and a rope that it lacks."""
    need_both_stated(book, pattern, rung)
    return fault_of(book, pattern, rung)
