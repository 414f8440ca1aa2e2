"""Patterns as lines of text."""
from listbylist.books import between_in
from listbylist.booktexts import read_number
from listbylist.errors import InvalidText, need
from listbylist.masks import near_masks, things_of
from listbylist.patternkinds import is_pattern


def rope_fields(rope):
    """Low, high, how many are ahead, and these."""
    low, high, ahead = rope
    return [str(number) for number in (low, high, len(ahead)) + ahead]


def pattern_fields(pattern):
    """The fields of the pattern's line."""
    word = pattern[0]
    fields = [word]
    if word in ("ropes", "above"):
        fields.append(str(len(pattern[1])))
        for rope in pattern[1]:
            fields.extend(rope_fields(rope))
    elif word in ("amid", "ahead", "behind"):
        fields.append(str(pattern[1]))
    else:
        for part in pattern[1:]:
            fields.extend(pattern_fields(part))
    return fields


def pattern_line(book, pattern):
    """The pattern's line."""
    need(is_pattern(book, pattern), "pattern")
    return " ".join(pattern_fields(pattern))


def due_field(fields, at):
    """The field at this place, where one is due."""
    if at >= len(fields):
        raise InvalidText(0, len(fields))
    return fields[at]


def due_number(fields, at):
    """The number at this place, where any can stand."""
    number = read_number(due_field(fields, at))
    if number is None:
        raise InvalidText(0, at)
    return number


def due_of(numbers, fields, at):
    """The number at this place, where one of these can stand."""
    number = due_number(fields, at)
    if number not in numbers:
        raise InvalidText(0, at)
    return number


def due_from(least, fields, at):
    """The number at this place, where any that is at least this can stand."""
    number = due_number(fields, at)
    if number < least:
        raise InvalidText(0, at)
    return number


def due_within(least, most, fields, at):
    """The number at this place, where any that is at least least and below most can stand."""
    number = due_from(least, fields, at)
    if number >= most:
        raise InvalidText(0, at)
    return number


def read_any_rope_at(fields, at):
    """The pair of the rope of a book of one list of all numbers that begins at this place and the place behind it."""
    low = due_number(fields, at)
    high = due_from(low + 1, fields, at + 1)
    many = due_within(0, high - low, fields, at + 2)
    ahead = []
    while len(ahead) < many:
        least = ahead[-1] + 1 if ahead else low + 1
        ahead.append(due_within(least, high, fields, at + 3 + len(ahead)))
    return (low, high, tuple(ahead)), at + 3 + many


def read_rope_at(near, fields, at):
    """The pair of the rope that begins at this place and the place behind it.

    Here and in what follows near is None for a book of one list of all numbers.
    """
    if near is None:
        return read_any_rope_at(fields, at)
    low = due_of(list(range(len(near))), fields, at)
    high = due_of([thing for thing in things_of(near[low]) if thing > low], fields, at + 1)
    left = between_in(near, low, high)
    many = due_of(list(range(len(left) + 1)), fields, at + 2)
    ahead = []
    for place in range(at + 3, at + 3 + many):
        ahead.append(due_of(left, fields, place))
        left = [thing for thing in left if thing > ahead[-1]]
    return (low, high, tuple(ahead)), at + 3 + many


def read_ropes_at(near, fields, at):
    """The pair of the ropes whose number stands at this place and the place behind them."""
    many = due_number(fields, at)
    ropes = []
    place = at + 1
    while len(ropes) < many:
        rope, behind = read_rope_at(near, fields, place)
        if ropes and rope <= ropes[-1]:
            raise InvalidText(0, place)
        ropes.append(rope)
        place = behind
    return tuple(ropes), place


def read_pattern_at(near, fields, at):
    """The pair of the pattern that begins at this place and the place behind it."""
    word = due_field(fields, at)
    if word in ("all", "none"):
        return (word,), at + 1
    if word in ("ropes", "above"):
        ropes, place = read_ropes_at(near, fields, at + 1)
        return (word, ropes), place
    if word in ("amid", "ahead", "behind"):
        return (word, due_number(fields, at + 1)), at + 2
    if word not in ("not", "both", "either"):
        raise InvalidText(0, at)
    part, place = read_pattern_at(near, fields, at + 1)
    if word == "not":
        return (word, part), place
    more, place = read_pattern_at(near, fields, place)
    return (word, part, more), place


def read_pattern(book, text):
    """The pattern whose line the text is."""
    need(isinstance(text, str), "text")
    fields = text.split(" ")
    pattern, place = read_pattern_at(near_masks(book), fields, 0)
    if place < len(fields):
        raise InvalidText(0, place)
    return pattern
