"""Which values are patterns."""
from listbylist.kinds import is_number
from listbylist.ropekinds import are_any_ropes, is_ropes


def is_pattern_in(book, thing):
    """True if the thing is a pattern with ropes of the book, or, if book is None, of any books."""
    if not isinstance(thing, tuple) or len(thing) == 0 or not isinstance(thing[0], str):
        return False
    word, parts = thing[0], thing[1:]
    if word in ("all", "none"):
        return len(parts) == 0
    if word in ("both", "either"):
        return len(parts) == 2 and is_pattern_in(book, parts[0]) and is_pattern_in(book, parts[1])
    if len(parts) != 1:
        return False
    if word in ("ropes", "above"):
        return are_any_ropes(parts[0]) if book is None else is_ropes(book, parts[0])
    if word in ("amid", "ahead", "behind"):
        return is_number(parts[0])
    return word == "not" and is_pattern_in(book, parts[0])


def is_pattern(book, thing):
    """True if the thing is a pattern with ropes of the book."""
    return is_pattern_in(book, thing)


def is_any_pattern(thing):
    """True if the thing is a pattern with ropes of any books."""
    return is_pattern_in(None, thing)


def has_plain_words(pattern):
    """True if "ropes", "above" and "not" are not used in the pattern."""
    if pattern[0] in ("ropes", "above", "not"):
        return False
    return all([has_plain_words(part) for part in pattern[1:] if isinstance(part, tuple)])


def is_plain(book, thing):
    """True if the thing is a plain pattern."""
    return is_pattern(book, thing) and has_plain_words(thing)
