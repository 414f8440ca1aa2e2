"""[83] to [85]: events, what bars them, what they do."""
import random
import unittest

import liveoutright
import outright
from liveoutright import REASONS, WORDS, drawn_desks, drawn_event
from outright import LIST, ODD, PAIR, changes, refused, same
from listbylist.barring import reason_of
from listbylist.deeds import deed_of
from listbylist.liveevents import is_event, is_log

STARTS = (
    LIST, PAIR, (1, ()), (2, ((0, 1),)), (4, ((0, 1, 2, 3),)), (5, ((0, 2), (1, 3, 4))), (5, ((0, 1, 2), (2, 3, 4))),
    (3, ((0, 1), (0, 2), (1, 2))), (4, ((0, 1, 2), (0, 1, 2))), (4, ((0, 1, 3), (1, 3))), (4, ()), (5, ((0, 1, 2, 3), (1, 2, 3, 4))),
)
SHORT = ("ropes", ((0, 1, ()), (1, 2, ())))


def some_events(draw):
    """Events of all words, each of some book."""
    for book in STARTS:
        branches = tuple(draw.choice(outright.sortings(book)) for _ in range(3))
        for _ in range(12):
            yield drawn_event(draw, book, branches)
    yield from (("line", 0, ()), ("undo", 3, ()), ("look", (7, None)), ("list", (0, 10 ** 40)), ("drop", 10 ** 40))


class Events(unittest.TestCase):
    def test_examples(self):
        self.assertIs(is_event(("exchange", 0, 2, 1)), False)
        self.assertIs(is_event(("exchange", 0, 1, 2)), True)

    def test_by_the_words(self):
        draw = random.Random(321)
        met = set()
        for event in some_events(draw):
            self.assertIs(is_event(event), True)
            values = list(changes(event)) + list(outright.rebooled(event)) + [event + (0,), event[:-1], list(event), event[0]]
            values += [(word, *event[1:]) for word in WORDS + ("days", "", None)]
            for value in draw.sample(values, min(40, len(values))):
                wanted = liveoutright.is_event(value)
                met.add((wanted, value[0] if wanted else None))
                self.assertIs(is_event(value), wanted, value)
        self.assertEqual(met, {(True, word) for word in WORDS} | {(False, None)})

    def test_edges(self):
        for value in ODD + (
            ("thing", ()), ("thing", 0), ("list", (0,)), ("list", ()), ("list", (1, 0)), ("list", (0, 0)), ("list", [0, 1]), ("list", (0, True)),
            ("list", (0, -1)), ("list", 0, 1), ("drop", -1), ("drop", True), ("drop", "0"), ("branch",), ("branch", None), ("branch", False),
            ("exchange", 0, 1), ("exchange", 0, 1, 1), ("exchange", 0, False, 1), ("exchange", True, 0, 1), ("exchange", 0, (0, 1)),
            ("exchange", 0, "0", "1"), ("exchange", 0, None, 1), ("line", 0, (1,)), ("line", 0, (0, 0)), ("line", 0, (0, 2)), ("line", 0, [0]),
            ("line", 0, (False,)), ("line", 0, (1, True)), ("line", 0), ("line", (0,)), ("least", 0), ("least", 0, True), ("least", 0, 1, 2),
            ("greatest", -1, 0), ("undo", 0, "all"), ("undo", 0, ["all"]), ("undo", ("all",)), ("undo", 0, None), ("turn", 0, 0), ("turn",),
            ("look", "all"), ("look", ("all",), 0), ("look",), ("day", 0), ("Day",), ("days",), ["day"], "day", (("day",),), ("day ",), (b"day",),
            (None, 0), (0, 1),
        ):
            self.assertIs(is_event(value), False, value)
            self.assertIs(is_log((value,)), False, value)
        for value in (
            ("thing",), ("day",), ("list", (0, 1)), ("list", tuple(range(50))), ("drop", 0), ("line", 0, ()), ("line", 9, (2, 0, 1)),
            ("undo", 0, ()), ("look", (None, [], "x")), ("exchange", 10 ** 40, 0, 10 ** 40), ("least", 3, 3),
        ):
            self.assertIs(is_event(value), True, value)
            self.assertIs(is_log((value, ("day",))), True)
        self.assertIs(is_log(()), True)
        for value in (None, [], [("day",)], ("day",), (("day",), None), "day", 0, ((),)):
            self.assertIs(is_log(value), False, value)
        self.assertEqual((is_event(thing=("day",)), is_log(thing=())), (True, True))


class Bars(unittest.TestCase):
    def test_examples(self):
        self.assertEqual(reason_of(PAIR, ((),), ("exchange", 0, 1, 3)), "held")
        self.assertEqual(reason_of((4, ((0, 1, 2),)), ((),), ("list", (0, 2, 3))), "joint")

    def hold(self, book, branches, event):
        """Also deed_of, which raises with the very event."""
        wanted = liveoutright.reason(book, branches, event)
        self.assertTrue(same(reason_of(book, branches, event), wanted), (book, branches, event))
        outcome = refused(deed_of, book, branches, event)
        if wanted is None:
            self.assertTrue(same(outcome, ("gives", liveoutright.deed(book, branches, event))), (book, branches, event))
        else:
            self.assertEqual(outcome[0], "InvalidEvent")
            self.assertTrue(outcome[1] is event and outcome[2] == wanted)
        return wanted

    def test_drawn(self):
        draw = random.Random(322)
        met = set()
        for first, events in drawn_desks(draw, STARTS, 60, 40):
            book, branches = first, ((),)
            for event in events:
                found = self.hold(book, branches, event)
                met.add((event[0], found))
                if found is None:
                    book, branches = deed_of(book, branches, event)
                    self.assertTrue(outright.is_sortings(book, branches) and liveoutright.jointed(book))
        self.assertEqual({word for word, found in met if found is None}, set(WORDS))
        self.assertEqual({found for _, found in met}, set(REASONS[1:]) | {None})

    def test_changed_events(self):
        draw = random.Random(323)
        met = set()
        for book in STARTS:
            found = outright.sortings(book)
            for _ in range(60):
                branches = tuple(draw.choice(found) for _ in range(draw.randrange(1, 4)))
                event = drawn_event(draw, book, branches)
                values = list(changes(event)) + list(outright.rebooled(event))
                for value in draw.sample(values, min(20, len(values))) + [event]:
                    if is_small(value):
                        met.add(self.hold(book, branches, value))
        self.assertEqual(met, set(REASONS) | {None})

    def test_first_that_applies(self):
        book, branches = (4, ((0, 1, 2), (1, 2, 3))), (((0, 1),), ())
        for event, wanted in (
            (("exchange", 9, 3, 2), "shape"), (("exchange", 2, 8, 9), "branch"), (("least", 0, 2), "branch"), (("least", 2, 0), "branch"),
            (("line", 2, ()), "branch"), (("undo", 2, ()), "branch"), (("turn", 2), "branch"), (("branch", 2), "branch"), (("drop", 2), "listed"),
            (("exchange", 1, 0, 4), "thing"), (("exchange", 1, 4, 5), "thing"), (("list", (0, 4)), "thing"), (("list", (0, 3, 9)), "thing"),
            (("line", 0, ()), "thing"), (("line", 0, (0, 1, 2)), "thing"), (("line", 0, (4, 0, 1, 2, 3)), "thing"),
            (("exchange", 1, 0, 3), "tie"), (("list", (0, 3)), None), (("list", (0, 1, 3)), None), (("exchange", 0, 1, 2), "held"),
            (("exchange", 1, 0, 2), "held"), (("undo", 0, ()), "pattern"), (("undo", 0, ("ropes", ((0, 3, ()),))), "pattern"),
            (("undo", 0, ("amid", True)), "pattern"), (("look", ("ropes", ())), "pattern"), (("look", ("not", ("all",))), "pattern"),
            (("look", SHORT), "pattern"), (("undo", 0, SHORT), "uneven"), (("look", ("both", ("all",), ("amid", 1))), None),
            (("undo", 0, ("above", ((0, 1, ()),))), None), (("least", 1, 1), None), (("exchange", 0, 0, 1), None), (("day",), None),
            (("thing",), None), (("drop", 0), None), (("turn", 1), None), (("branch", 1), None), (("line", 1, (3, 2, 1, 0)), None),
        ):
            self.assertEqual(self.hold(book, branches, event), wanted, event)
        self.assertEqual(self.hold((4, ((0, 1), (1, 2), (2, 3), (1, 3), (0, 2), (0, 3))), ((),), ("drop", 1)), "joint")
        self.assertEqual(self.hold((4, ((0, 1, 2), (1, 2, 3))), ((),), ("list", (0, 3))), None)
        self.assertEqual(self.hold((4, ((0, 1), (1, 2), (2, 3))), ((),), ("list", (0, 3))), "joint")
        for event in (("turn", 0), ("branch", 0), ("undo", 0, ("all",))):
            self.assertEqual(self.hold(book, (), event), "branch")
        for event in (("day",), ("thing",), ("list", (0, 3)), ("drop", 1), ("look", ("all",))):
            self.assertIsNone(self.hold(book, (), event))
        for value in ODD:
            self.assertEqual(self.hold(book, branches, value), "shape")

    def test_wrong_inputs(self):
        for branches in ODD + ([()], (None,), (((0, 1), (1, 2)),), ((), [(0, 1)]), (((0, 3),),), "()", (((False, 1),),)):
            if not outright.is_sortings(LIST, branches):
                for call in (reason_of, deed_of):
                    self.assertEqual(refused(call, LIST, branches, None), ("NotUsable", "branches", -1), branches)
        self.assertEqual(reason_of(event=("day",), branches=(), book=LIST), None)
        self.assertEqual(deed_of(event=("day",), branches=((),), book=LIST), (LIST, ((),)))
        self.assertEqual(refused(deed_of, LIST, (), ("turn", 0)), ("InvalidEvent", ("turn", 0), "branch"))

    def test_lists_put_in_and_dropped(self):
        """[92]: the branches stay as they were, and ties of both books have the same thing ahead."""
        draw = random.Random(324)
        for book in STARTS:
            found = outright.sortings(book)
            branches = tuple(draw.choice(found) for _ in range(3))
            for things in outright.lots(range(book[0])):
                event = ("list", things)
                if len(things) > 1 and reason_of(book, branches, event) is None:
                    other, carried = deed_of(book, branches, event)
                    for one, two in zip(branches, carried):
                        for tie in outright.ties(book):
                            self.assertEqual(tie in one, tie in two)
                    self.assertEqual(deed_of(other, carried, ("drop", len(book[1]))), (book, branches))


def is_small(value):
    """No huge number where it would lead to a huge book or pattern."""
    return not isinstance(value, tuple) or all(
        is_small(x) if isinstance(x, tuple) else not isinstance(x, int) or x < 100 for x in value)


if __name__ == "__main__":
    unittest.main()
