"""All errors of the package. Each keeps exactly the fields that it is constructed with."""


class ListsError(ValueError):
    """The base class of all errors."""


class PaperError(ListsError):
    """A paper is not what a checker accepts."""


class BookError(ListsError):
    """A parameter, a book or ties of it do not serve."""


class LiveError(ListsError):
    """A desk can't do what is asked."""


class TextError(ListsError):
    """A text can't be read."""


class InvalidPaper(PaperError):
    """A checker refuses its thing: the word of what is wrong, and where."""

    def __init__(self, word, at):
        self.word = word
        self.at = at


class NotUsable(BookError):
    """A parameter is not as stated: its name, and where."""

    def __init__(self, word, at):
        self.word = word
        self.at = at


class BareRing(BookError):
    """The book has a bare ring."""

    def __init__(self, ring):
        self.ring = ring


class Unjointed(BookError):
    """The book is not well jointed: a paper of that."""

    def __init__(self, paper):
        self.paper = paper


class InRound(BookError):
    """Told ties would lead in a round through these things."""

    def __init__(self, things):
        self.things = things


class Quarrel(BookError):
    """Two orders put the ends of this tie unlike."""

    def __init__(self, tie):
        self.tie = tie


class Blocked(BookError):
    """A tie is not open: a way of at least three things between its ends."""

    def __init__(self, way):
        self.way = way


class Crossed(BookError):
    """Two ropes cross."""

    def __init__(self, rope, other):
        self.rope = rope
        self.other = other


class OffRung(BookError):
    """A pattern is not on a rung: what it tells, and what it lacks."""

    def __init__(self, rung, given, missing):
        self.rung = rung
        self.given = given
        self.missing = missing


class Unglued(BookError):
    """The trees of two full lists differ on what they share."""

    def __init__(self, place, other):
        self.place = place
        self.other = other


class InvalidEvent(LiveError):
    """An event is barred, for this reason."""

    def __init__(self, event, reason):
        self.event = event
        self.reason = reason


class NothingToUndo(LiveError):
    """There are fewer events than these steps."""

    def __init__(self, steps):
        self.steps = steps


class InvalidText(TextError):
    """A field of a line can't stand there, or is missing."""

    def __init__(self, line, field):
        self.line = line
        self.field = field


class InvalidRow(TextError):
    """A row of a text can't stand there."""

    def __init__(self, row):
        self.row = row


def need(holds, word):
    """Raise NotUsable for the parameter called word unless what it needs holds."""
    if not holds:
        raise NotUsable(word, -1)
