"""Sortings by the places of their things, and numbered."""
from listbylist.errors import need
from listbylist.kinds import is_number
from listbylist.listorders import order_in
from listbylist.masks import count_of, leading_masks, mask_of, near_masks, things_of
from listbylist.sortkinds import is_sorting
from listbylist.taking import taking_of


def put_back(book):
    """Pairs of a thing and the mask of what is tied to it and put back before it, in the sequence of putting back."""
    near = near_masks(book)
    back = taking_of(book)[::-1]
    return [(thing, near[thing] & mask_of(back[:k])) for k, thing in enumerate(back)]


def places_in(book, back, sorting):
    """The places of the things at the sorting."""
    out = leading_masks(book, sorting)
    return tuple([len([other for other in things_of(before) if out[other] >> thing & 1]) for thing, before in back])


def are_places(back, thing):
    """True if thing is a tuple of places, none greater than the room of its thing."""
    if not isinstance(thing, tuple) or len(thing) != len(back):
        return False
    return all([is_number(thing[k]) and thing[k] <= count_of(before) for k, (_, before) in enumerate(back)])


def sorting_placed(back, places):
    """The sorting with these places."""
    out = [0] * len(back)
    for k, (thing, before) in enumerate(back):
        # What was tied to the thing when it was taken out is tied to one another, so it stands in an order.
        order = order_in(out, things_of(before))
        for other in order[:places[k]]:
            out[other] = out[other] | (1 << thing)
        out[thing] = mask_of(order[places[k]:])
    pairs = [(low, high) for low in range(len(out)) for high in range(low + 1, len(out))]
    return tuple([(low, high) for low, high in pairs if out[high] >> low & 1])


def number_in(back, places):
    """The number of the sorting with these places."""
    number = 0
    for k, (_, before) in enumerate(back):
        number = number * (count_of(before) + 1) + places[k]
    return number


def places_at(back, number):
    """The places of the sorting with this number."""
    places = []
    left = number
    for _, before in back[::-1]:
        left, place = divmod(left, count_of(before) + 1)
        places.append(place)
    return tuple(places[::-1])


def count_in(back):
    """How many sortings there are."""
    count = 1
    for _, before in back:
        count = count * (count_of(before) + 1)
    return count


def sorting_count(book):
    """How many sortings the book has."""
    return count_in(put_back(book))


def places_of(book, sorting):
    """A tuple with the place of each thing, in the sequence in which they are put back."""
    back = put_back(book)
    need(is_sorting(book, sorting), "sorting")
    return places_in(book, back, sorting)


def sorting_by_places(book, places):
    """The sorting with these places."""
    back = put_back(book)
    need(are_places(back, places), "places")
    return sorting_placed(back, places)


def number_of(book, sorting):
    """The number of the sorting."""
    back = put_back(book)
    need(is_sorting(book, sorting), "sorting")
    return number_in(back, places_in(book, back, sorting))


def sorting_at(book, number):
    """The sorting with this number."""
    back = put_back(book)
    need(is_number(number) and number < count_in(back), "number")
    return sorting_placed(back, places_at(back, number))


def next_sorting(book, sorting):
    """The sorting whose number is one greater, or None."""
    back = put_back(book)
    need(is_sorting(book, sorting), "sorting")
    number = number_in(back, places_in(book, back, sorting)) + 1
    return sorting_placed(back, places_at(back, number)) if number < count_in(back) else None
