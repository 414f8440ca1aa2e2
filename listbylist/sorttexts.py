"""Sortings as lines of text."""
from listbylist.errors import InvalidText, need
from listbylist.listorders import own_orders, sorting_told


def sorting_line(book, sorting):
    """The orders of the own lists."""
    orders = own_orders(book, sorting)
    return "; ".join([" ".join([str(thing) for thing in order]) for order in orders])


def read_order(line, things, fields, last):
    """The order of these things in the fields; last tells if the list is the last one."""
    order = []
    for at in range(len(things)):
        end = ";" if at == len(things) - 1 and not last else ""
        field = fields[at] if at < len(fields) else ""
        found = [thing for thing in things if thing not in order and field == str(thing) + end]
        if not found:
            raise InvalidText(line, at)
        order.append(found[0])
    return tuple(order)


def read_orders(lists, fields):
    """The orders of these lists, of which there is at least one, in the fields."""
    orders = []
    start = 0
    for line, things in enumerate(lists):
        stop = start + len(things)
        orders.append(read_order(line, things, fields[start:stop], line == len(lists) - 1))
        start = stop
    if start < len(fields):
        raise InvalidText(len(lists) - 1, len(lists[-1]))
    return tuple(orders)


def read_sorting(book, text):
    """The sorting whose sorting_line the text is."""
    need(isinstance(text, str), "text")
    lists = book[1]
    fields = text.split(" ") if text != "" else []
    if not lists:
        if fields:
            raise InvalidText(0, 0)
        return ()
    return sorting_told(book, read_orders(lists, fields))
