"""Events and logs as texts."""
from listbylist.errors import InvalidRow, InvalidText, need
from listbylist.liveevents import EVENT_FIELDS, fields_of, is_event
from listbylist.patternkinds import is_any_pattern
from listbylist.patterntexts import due_field, due_from, due_number, due_within, pattern_fields, read_pattern_at


def can_be_written(thing):
    """True if thing is an event whose pattern, if it has one, is a pattern with ropes of any books."""
    if not is_event(thing):
        return False
    told = fields_of(thing)
    return "pattern" not in told or is_any_pattern(told["pattern"])


def written_field(name, field):
    """The words of one field of an event."""
    if name == "pattern":
        return pattern_fields(field)
    numbers = field if name in ("things", "line") else (field,)
    return [str(number) for number in numbers]


def line_of_event(event):
    """The event's line."""
    words = [event[0]]
    for name, field in fields_of(event).items():
        words.extend(written_field(name, field))
    return " ".join(words)


def event_line(event):
    """The event's word and fields."""
    need(can_be_written(event), "event")
    return line_of_event(event)


def log_text(log):
    """The lines of the events, joined by newlines."""
    need(isinstance(log, tuple) and all([can_be_written(event) for event in log]), "log")
    return "\n".join([line_of_event(event) for event in log])


def read_things_at(fields, at):
    """The pair of the things that begin at this place and go on to the end, and the place behind them."""
    things = []
    place = at
    while place < len(fields) or len(things) < 2:
        things.append(due_from(things[-1] + 1 if things else 0, fields, place))
        place = place + 1
    return tuple(things), place


def read_line_at(fields, at):
    """The pair of the line that begins at this place and goes on to the end, and the place behind it."""
    many = len(fields) - at
    line = []
    for place in range(at, len(fields)):
        number = due_within(0, many, fields, place)
        if number in line:
            raise InvalidText(0, place)
        line.append(number)
    return tuple(line), len(fields)


def read_field_at(name, fields, at, low):
    """The pair of the field with this name that begins at this place, and the place behind it."""
    if name == "things":
        return read_things_at(fields, at)
    if name == "line":
        return read_line_at(fields, at)
    if name == "pattern":
        return read_pattern_at(None, fields, at)
    number = due_from(low + 1, fields, at) if name == "high" else due_number(fields, at)
    return number, at + 1


def event_in(fields):
    """The event with these fields."""
    word = due_field(fields, 0)
    if word not in EVENT_FIELDS:
        raise InvalidText(0, 0)
    told = [word]
    place = 1
    for name in EVENT_FIELDS[word]:
        field, place = read_field_at(name, fields, place, told[-1])
        told.append(field)
    if place < len(fields):
        raise InvalidText(0, place)
    return tuple(told)


def read_event(text):
    """The event with this line."""
    need(isinstance(text, str), "text")
    return event_in(text.split(" "))


def event_at(text, line):
    """The event with this line, whose number is told with an error."""
    try:
        return event_in(text.split(" "))
    except InvalidText as wrong:
        raise InvalidText(line, wrong.field) from None


def first_unfounded(log):
    """The first row whose branch or other is greater than the number of "branch" rows above it, or None."""
    many = 0
    for row, event in enumerate(log):
        told = fields_of(event)
        if max(told.get("branch", 0), told.get("other", 0)) > many:
            return row
        if event[0] == "branch":
            many = many + 1
    return None


def read_log(text):
    """The tuple of the events of the lines."""
    need(isinstance(text, str), "text")
    if text == "":
        return ()
    log = tuple([event_at(part, line) for line, part in enumerate(text.split("\n"))])
    row = first_unfounded(log)
    if row is not None:
        raise InvalidRow(row)
    return log
