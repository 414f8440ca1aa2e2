"""Books as lines of text."""
from listbylist.errors import InvalidText, need


def book_line(book):
    """The size, and for each list "; " and its things."""
    size, lists = book
    parts = [str(size)] + [" ".join([str(thing) for thing in things]) for things in lists]
    return "; ".join(parts)


def read_number(word):
    """The number that is written so without needless zeros, or None."""
    if not word.isascii() or not word.isdigit():
        return None
    if word.startswith("0") and word != "0":
        return None
    return int(word)


def read_field(field):
    """The pair of the number of a field, or None, and whether a ; ends it."""
    if field.endswith(";"):
        return read_number(field[:-1]), True
    return read_number(field), False


def can_stand(size, things, number, last):
    """True if the number can follow these things of a list; last tells if it ends the list."""
    if number is None or number >= size:
        return False
    return number > things[-1] if things else not last


def read_lists(size, fields):
    """The lists in the fields from field 1 on, of which there is at least one list."""
    lists = []
    things = []
    for at in range(1, len(fields)):
        number, last = read_field(fields[at])
        if not can_stand(size, things, number, last):
            raise InvalidText(0, at)
        things.append(number)
        if last:
            lists.append(tuple(things))
            things = []
    if len(things) < 2:
        raise InvalidText(0, len(fields))
    lists.append(tuple(things))
    return tuple(lists)


def read_book(text):
    """The book of such a line."""
    need(isinstance(text, str), "text")
    fields = text.split(" ")
    size, more = read_field(fields[0])
    if size is None or size < 1:
        raise InvalidText(0, 0)
    if more:
        return (size, read_lists(size, fields))
    if len(fields) > 1:
        raise InvalidText(0, 1)
    return (size, ())
