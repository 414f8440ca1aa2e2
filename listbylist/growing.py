"""The least set of ropes on a rung with told ones, the greatest one without them."""
from listbylist.choices import asked_with
from listbylist.errors import need
from listbylist.evens import sides_in
from listbylist.masks import near_masks
from listbylist.ropekinds import is_ropes
from listbylist.ropelists import ropes_of
from listbylist.rungs import is_rung, is_sided


def sides_among(book, newest, told):
    """The sides of all choices with one end rope among the newest and the other one among the told ropes."""
    pairs = [pair for one in newest for other in told for pair in ((one, other), (other, one))]
    found = [sides_in(book, rope, other) for rope, other in pairs]
    return [side for sides in found if sides is not None for side in sides]


def asked_anew(book, newest, told, rung):
    """What the rung asks by the newest of the told ropes."""
    if rung == "even":
        return sides_among(book, newest, told)
    near = near_masks(book)
    return [asked for rope in newest for asked in asked_with(near, rope, rung)]


def grown_to(book, ropes, rung):
    """The least set with these ropes that is on the rung, ascending."""
    told = {rope: True for rope in ropes}
    newest = list(ropes)
    while newest:
        asked = asked_anew(book, newest, list(told), rung)
        newest = sorted(set([rope for rope in asked if rope not in told]))
        for rope in newest:
            told[rope] = True
    return tuple(sorted(told))


def need_stated(book, ropes, rung):
    """Raise NotUsable unless these are ropes and a rung."""
    need(is_ropes(book, ropes), "ropes")
    need(is_rung(rung), "rung")


def least_on(book, ropes, rung):
    """The least set with all these ropes that is on the rung, ascending."""
    need_stated(book, ropes, rung)
    return grown_to(book, ropes, rung)


def falls_with(book, ropes, rung):
    """Those of least_on that are not among ropes, ascending."""
    need_stated(book, ropes, rung)
    return tuple([rope for rope in grown_to(book, ropes, rung) if rope not in ropes])


def most_without(book, ropes, rung):
    """The greatest set with none of these ropes that is on the rung, ascending."""
    need(is_ropes(book, ropes), "ropes")
    need(is_sided(rung), "rung")
    near = near_masks(book)
    left = {rope: asked_with(near, rope, rung) for rope in ropes_of(book) if rope not in ropes}
    going = list(ropes)
    # What asks a rope that is not left can't stay itself.
    while going:
        going = [rope for rope, asked in left.items() if any([one not in left for one in asked])]
        left = {rope: asked for rope, asked in left.items() if rope not in going}
    return tuple(left)
