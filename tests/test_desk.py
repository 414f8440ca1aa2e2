"""[86] to [90], [92]: desks, what is asked of them, undone and tried, logs replayed and cut, days."""
import random
import unittest
from itertools import combinations, product

import liveoutright
import outright
from liveoutright import drawn_desks
from outright import GAP, LIST, LOOP, ODD, PAIR, refused, same
from listbylist.errors import InvalidEvent, NothingToUndo
from listbylist.joints import lets_joint
from listbylist.journals import days_of
from listbylist.live import Desk
from listbylist.liveasks import LiveAsks
from listbylist.merging import least_common
from listbylist.replaying import cut_log, replayed
from listbylist.rungs import on_rung
from listbylist.sortturns import carried
from test_events import SHORT, STARTS
from test_leaving import losses
from test_listends import order_in
from test_viewmerges import HUGE

METHODS = {
    "thing": "add_thing", "list": "add_list", "drop": "drop_list", "branch": "add_branch", "exchange": "exchange", "line": "follow",
    "least": "least", "greatest": "greatest", "undo": "undo_by", "turn": "turn", "look": "look", "day": "day",
}


class Model:
    """A desk by the words: all states that it was in, and the events between them."""

    def __init__(self, book):
        self.states, self.events = [(book, ((),), ("none",))], []

    @property
    def now(self):
        return self.states[-1]

    def barred(self, event):
        return liveoutright.reason(*self.now[:2], event)

    def go(self, event):
        book, branches, view = self.now
        view = event[1] if event[0] == "look" else view
        self.states.append((*liveoutright.deed(book, branches, event), view))
        self.events.append(event)

    def undo(self, steps):
        for _ in range(steps):
            self.states.pop()
            self.events.pop()


def state(live):
    return (live.book_now(), live.branches_now(), live.view_now(), live.log())


def desk_of(book):
    return Desk(book[0], *book[1])


class Desks(unittest.TestCase):
    def hold(self, live, model):
        self.assertTrue(same(state(live), (*model.now, tuple(model.events))))

    def test_examples(self):
        live = Desk(4, (0, 1, 2), (1, 2, 3))
        self.assertIsNone(live.exchange(0, 0, 1))
        self.assertIsNone(live.add_branch(0))
        self.assertIsNone(live.exchange(1, 0, 2))
        self.assertEqual((live.branches_now(), live.tally()), ((((0, 1),), ((0, 1), (0, 2))), ((1, 0, 0), (1, 0, 0))))

    def test_first(self):
        live = Desk(4, (2, 1, 0), (1, 2, 3))
        self.assertTrue(same(state(live), (PAIR, ((),), ("none",), ())))
        self.assertIsInstance(live, LiveAsks)
        self.assertEqual(Desk.__bases__, (LiveAsks,))

    def test_drawn(self):
        """Event by event, by go and by the twelve methods; what is barred changes nothing."""
        draw = random.Random(331)
        met = set()
        for first, events in drawn_desks(draw, STARTS, 30, 40):
            live, model = desk_of(first), Model(first)
            for event in events:
                wanted = model.barred(event)
                self.assertEqual(live.barred(event), wanted)
                call = draw.choice((lambda: live.go(event), lambda: getattr(live, METHODS[event[0]])(*event[1:])))
                outcome = refused(call)
                met.add((event[0], wanted is None))
                if wanted is None:
                    self.assertEqual(outcome, ("gives", None))
                    model.go(event)
                else:
                    self.assertEqual(outcome, ("InvalidEvent", event, wanted))
                self.hold(live, model)
                if draw.random() < 0.1:
                    steps = draw.randrange(4)
                    if steps > len(model.events):
                        self.assertEqual(refused(live.undo, steps), ("NothingToUndo", steps))
                    else:
                        self.assertIsNone(live.undo(steps))
                        model.undo(steps)
                    self.hold(live, model)
            # [92]: equal to what is replayed from its first size and lists and its log.
            again = replayed(first[0], first[1], live.log())
            self.assertTrue(again == live and not again != live)
            self.assertTrue(same(state(again), state(live)))
        self.assertGreaterEqual(met, {(word, True) for word in METHODS})

    def test_do_all_and_tried(self):
        draw = random.Random(332)
        met = set()
        for first, events in drawn_desks(draw, STARTS, 60, 14):
            good = []
            model = Model(first)
            for event in events:
                if model.barred(event) is None:
                    model.go(event)
                    good.append(event)
            start = draw.randrange(len(good) + 1)
            for some in (tuple(good[start:]), events, ()):
                for keep in (False, True):
                    live, model = desk_of(first), Model(first)
                    for event in good[:start]:
                        live.go(event)
                        model.go(event)
                    before, done, wanted = state(live), 0, ("gives", None)
                    for event in some:
                        if model.barred(event):
                            wanted = ("InvalidEvent", event, model.barred(event))
                            break
                        model.go(event)
                        done += 1
                    tried = refused(live.tried, some)
                    self.assertTrue(same(tried, wanted if wanted[1] else ("gives", model.now[1])))
                    self.assertTrue(same(state(live), before))
                    outcome = refused(live.do_all, some, keep) if keep or draw.random() < 0.5 else refused(live.do_all, some)
                    self.assertEqual(outcome, wanted)
                    if wanted[1] and not keep:
                        self.assertTrue(same(state(live), before))
                        model.undo(done)
                    self.hold(live, model)
                    met.add((keep, wanted[0], done > 0))
                    if len(live.log()) > start:
                        live.undo(len(live.log()) - start)
                        self.assertTrue(same(state(live), before))
        self.assertEqual(met, set(product((True, False), ("gives", "InvalidEvent"), (True, False))))

    def test_undo(self):
        live = Desk(4, (0, 1, 2), (1, 2, 3))
        begun = state(live)
        events = (("exchange", 0, 1, 2), ("branch", 0), ("look", ("ahead", 1)), ("thing",), ("list", (3, 4)), ("drop", 0), ("day",))
        states = [begun]
        for event in events:
            live.go(event)
            states.append(state(live))
        for steps in (8, 9, 10 ** 40):
            self.assertEqual(refused(live.undo, steps), ("NothingToUndo", steps))
        self.assertEqual(state(live), states[-1])
        for k in range(6, -1, -1):
            self.assertIsNone(live.undo(0))
            self.assertIsNone(live.undo())
            self.assertEqual(state(live), states[k])
        self.assertEqual(refused(live.undo), ("NothingToUndo", 1))
        self.assertIsNone(live.undo(0))
        live.do_all(events)
        live.undo(steps=7)
        self.assertEqual(state(live), begun)
        with self.assertRaises(NothingToUndo):
            live.undo(1)

    def test_errors_of_going(self):
        live = Desk(3, (0, 1, 2))
        for value in ODD + (("exchange", 0, 2, 1), ("turn", True)):
            self.assertEqual(refused(live.go, value), ("InvalidEvent", value, "shape"), value)
            self.assertEqual(live.barred(value), "shape")
            self.assertEqual(refused(live.do_all, (value,)), ("InvalidEvent", value, "shape"))
            self.assertEqual(refused(live.tried, (("day",), value)), ("InvalidEvent", value, "shape"))
        event = ("undo", 0, SHORT)
        with self.assertRaises(InvalidEvent) as caught:
            live.do_all((("day",), event), True)
        self.assertIs(caught.exception.event, event)
        self.assertEqual((caught.exception.reason, live.log()), ("uneven", (("day",),)))
        # The twelve methods raise no NotUsable.
        for call, given, event in (
            (live.add_list, ([0, 1],), ("list", [0, 1])), (live.drop_list, (None,), ("drop", None)), (live.add_branch, ("0",), ("branch", "0")),
            (live.exchange, (0, 1, 0), ("exchange", 0, 1, 0)), (live.follow, (0, [0, 1, 2]), ("line", 0, [0, 1, 2])),
            (live.least, (True, 0), ("least", True, 0)), (live.greatest, (0, None), ("greatest", 0, None)), (live.undo_by, (0, "all"), ("undo", 0, "all")),
            (live.turn, (-1,), ("turn", -1)), (live.look, (["all"],), ("look", ["all"])),
        ):
            self.assertEqual(refused(call, *given), ("InvalidEvent", event, "shape"))
        self.assertEqual(refused(live.add_branch, 1), ("InvalidEvent", ("branch", 1), "branch"))
        self.assertEqual(refused(live.drop_list, 1), ("InvalidEvent", ("drop", 1), "listed"))
        for events in ODD + ([("day",)], "day", None, ("day",)):
            if type(events) is not tuple:
                for call in (live.do_all, live.tried):
                    self.assertEqual(refused(call, events), ("NotUsable", "events", -1), events)
        for keep in (None, 0, 1, "yes", (), "", (True,)):
            self.assertEqual(refused(live.do_all, (), keep), ("NotUsable", "keep", -1), keep)
            self.assertEqual(refused(live.do_all, [], keep), ("NotUsable", "events", -1), keep)
        for steps in ODD:
            if not (outright.is_int(steps) and steps >= 0):
                self.assertEqual(refused(live.undo, steps), ("NotUsable", "steps", -1), steps)
        self.assertEqual(live.log(), (("day",),))

    def test_by_name(self):
        live = Desk(4, (0, 1, 2), (1, 2, 3))
        live.add_list(things=(0, 3))
        live.drop_list(listed=2)
        live.add_branch(branch=0)
        live.exchange(high=1, low=0, branch=0)
        live.follow(line=(3, 2, 1, 0), branch=1)
        live.least(other=1, branch=0)
        live.greatest(branch=0, other=1)
        live.undo_by(pattern=("ahead", 1), branch=0)
        live.turn(branch=1)
        live.look(pattern=("amid", 1))
        live.go(event=("day",))
        live.do_all(keep=True, events=(("thing",),))
        self.assertEqual((live.barred(event=("day",)), live.tried(events=())), (None, live.branches_now()))
        self.assertEqual(len(live.log()), 12)

    def test_equal(self):
        one, other = Desk(4, (0, 1, 2), (1, 2, 3)), Desk(4, (0, 1, 2), (1, 2, 3))
        self.assertTrue(one == other and not one != other)
        one.exchange(0, 0, 1)
        self.assertFalse(one == other)
        other.follow(0, (1, 0, 2, 3))
        self.assertEqual(one.branches_now(), other.branches_now())
        self.assertFalse(one == other)
        one.undo()
        other.undo()
        self.assertTrue(one == other)
        one.day()
        self.assertFalse(one == other)
        other.look(("none",))
        self.assertFalse(one == other)
        other.undo()
        for value in ODD + (PAIR, state(other), Desk(4, (1, 2, 3), (0, 1, 2)), Desk(5, (0, 1, 2), (1, 2, 3)), Desk(4), LiveAsks):
            self.assertFalse(other == value)
            self.assertTrue(other != value)
        self.assertTrue(Desk(4, (2, 1, 0), (1, 2, 3)) == other)

    def test_equal_logs_of_other_books(self):
        """The books are the same in the end, as are the logs, but the branches are not."""
        log = (("exchange", 0, 1, 2), ("turn", 0), ("turn", 0), ("drop", 0))
        one, other = replayed(3, ((0, 1, 2), (1, 2)), log), replayed(3, ((0, 2), (1, 2)), log)
        self.assertEqual((one.book_now(), one.log(), one.view_now()), (other.book_now(), other.log(), other.view_now()))
        self.assertEqual((one.branches_now(), other.branches_now()), (((),), (((1, 2),),)))
        self.assertFalse(one == other)
        self.assertTrue(one != other)

    def test_beyond_the_branches(self):
        """A ninth branch is beyond the limits: it is not refused."""
        live = Desk(2, (0, 1))
        for _ in range(8):
            self.assertIsNone(live.barred(("branch", 0)))
            live.add_branch(0)
        self.assertEqual(len(live.branches_now()), 9)

    def test_wrong_desks(self):
        for size in ODD + (0, -1):
            if not (outright.is_int(size) and size >= 1):
                self.assertEqual(refused(Desk, size, None), ("NotUsable", "size", -1), size)
        for lists, k in ((((0, 1), None), 1), (((0,),), 0), (((0, 0),), 0), (((0, True),), 0), (([0, 1],), 0), (((0, 1, 2), (0, 3)), 1)):
            self.assertEqual(refused(Desk, 3, *lists), ("NotUsable", "lists", k))
        for book in (GAP, LOOP, outright.ring_book(5)):
            outcome = refused(Desk, book[0], *book[1])
            self.assertEqual(outcome[0], "Unjointed")
            self.assertIn(lets_joint(book, outcome[1]), ("ring", "gap"))
        self.assertEqual(refused(Desk, 4, *GAP[1], (0, 4)), ("NotUsable", "lists", 2))

    def test_returned_values_stay(self):
        """What a desk returned does not change when the desk goes on."""
        live = Desk(4, (0, 1, 2), (1, 2, 3))
        first = state(live) + (live.tally(), live.orders_now(0))
        kept = (PAIR, ((),), ("none",), (), ((0, 0, 0),), ((0, 1, 2), (1, 2, 3)))
        live.do_all((("exchange", 0, 0, 1), ("look", ("all",)), ("thing",), ("branch", 0)))
        self.assertTrue(same(first, kept))


class Asks(unittest.TestCase):
    def test_by_the_words(self):
        draw = random.Random(333)
        met = set()
        for first, events in drawn_desks(draw, STARTS, 24, 30):
            live, model = desk_of(first), Model(first)
            for event in events:
                if model.barred(event) is None:
                    model.go(event)
                    live.go(event)
            book, branches, view = model.now
            lists = outright.full(book)
            for at, one in enumerate(branches):
                self.assertTrue(same(live.sorting_now(at), one))
                self.assertTrue(same(live.orders_now(branch=at), tuple(order_in(one, things) for things in lists)))
                self.assertTrue(same(live.reasons_now(at), outright.reasons(book, one)))
                for to, other in enumerate(branches):
                    alike = liveoutright.end_by_steps(book, one, view) == liveoutright.end_by_steps(book, other, view)
                    met.add((view == ("none",), alike, one == other))
                    self.assertIs(live.same(at, other=to), alike)
                    self.assertTrue(same(live.apart(at, to), len(set(one) ^ set(other))))
                    if view == ("none",):
                        self.assertIs(alike, live.apart(at, to) == 0)
            for rope in outright.ropes(book)[:40]:
                wanted = tuple(at for at, one in enumerate(branches) if outright.shows(book, one, rope))
                self.assertTrue(same(live.who_has(rope), wanted))
            if len(outright.ties(book)) < 9:
                self.assertTrue(same(live.sortings_now(), len(outright.sortings(book))))
            for listed in range(len(book[1])):
                self.assertIs(live.harmless(listed), not losses(book, liveoutright.relisted(book, ("drop", listed))))
            tally = tuple(
                tuple(sum(1 for event in model.events if event[0] in words and event[1] == at) for words in (
                    ("exchange",), ("least", "greatest"), ("undo",))) for at in range(len(branches)))
            self.assertTrue(same(live.tally(), tally))
        self.assertGreaterEqual(met, {(False, True, False), (False, False, False), (True, False, False), (True, True, True)})

    def test_harmless(self):
        """[92]: exactly if it may be dropped and least common ones, carried, are those of the carried."""
        met = set()
        for book in STARTS + ((4, ((0, 1, 2), (1, 2, 3), (0, 2))), (4, ((0, 1, 2), (2, 3), (0, 1))), (5, ((0, 1, 4), (1, 4), (2, 3)))):
            if len(outright.sortings(book)) > 36:
                continue
            live = desk_of(book)
            for listed in range(len(book[1])):
                other = liveoutright.relisted(book, ("drop", listed))
                goes = live.barred(("drop", listed)) is None and all(
                    carried(book, least_common(book, pair), other) == least_common(
                        other, tuple(carried(book, one, other) for one in pair))
                    for pair in combinations(outright.sortings(book), 2))
                met.add(goes)
                self.assertIs(live.harmless(listed), goes, (book, listed))
        self.assertEqual(met, {True, False})

    def test_wrong_inputs(self):
        live = Desk(4, (0, 1, 2), (1, 2, 3))
        live.add_branch(0)
        for value in ODD + (2, -1, True):
            for call in (live.sorting_now, live.orders_now, live.reasons_now, lambda one: live.same(one, None), lambda one: live.apart(one, 5)):
                self.assertEqual(refused(call, value), ("NotUsable", "branch", -1), value)
            for call in (live.same, live.apart):
                self.assertEqual(refused(call, 1, value), ("NotUsable", "other", -1), value)
            self.assertEqual(refused(live.harmless, value), ("NotUsable", "listed", -1), value)
        for value in ODD + ((0, 3, ()), (0, 2, [1]), (0, True, ()), (0, 1)):
            self.assertEqual(refused(live.who_has, value), ("NotUsable", "rope", -1), value)
        self.assertEqual((live.same(1, 1), live.apart(0, 0), live.who_has(rope=(0, 1, ())), live.harmless(listed=0)), (True, 0, (), True))

    def test_huge(self):
        """As many things, ropes and sortings as can be."""
        draw = random.Random(334)
        for book in HUGE:
            live = desk_of(book)
            live.look(("both", ("ahead", 1), ("behind", 1)))
            live.follow(0, tuple(draw.sample(range(10), 10)))
            live.add_branch(0)
            live.undo_by(1, ("either", ("both", ("ahead", 1), ("behind", 1)), ("amid", 4)))
            self.assertEqual(live.same(0, 1), live.same(1, 0))
            live.turn(0)
            live.least(1, 0)
            live.greatest(0, 1)
            self.assertEqual(live.log()[-1], ("greatest", 0, 1))
            self.assertTrue(set(live.sorting_now(0)) <= set(live.sorting_now(1)))
            self.assertGreater(live.sortings_now(), 10000)


class Consequences(unittest.TestCase):
    def test_least_and_reasons(self):
        """[92]: each reason behind "least" was shown by one of both branches."""
        draw = random.Random(335)
        for book in STARTS:
            found = outright.sortings(book)
            for _ in range(10):
                live = desk_of(book)
                one, other = draw.choice(found), draw.choice(found)
                live.add_branch(0)
                live.follow(0, tuple(liveoutright.first_line(book, one)))
                live.follow(1, tuple(liveoutright.first_line(book, other)))
                live.least(0, 1)
                for rope in live.reasons_now(0):
                    self.assertTrue(outright.shows(book, one, rope) or outright.shows(book, other, rope))

    def test_undo_and_merge(self):
        """[92]: on "least" with "least", on "greatest" with "greatest", undoing first changes nothing."""
        draw = random.Random(336)
        met = set()
        for book in STARTS:
            found = outright.sortings(book)
            for pattern in outright.even_patterns(draw, book, 1):
                for word in ("least", "greatest"):
                    if not on_rung(book, pattern, word):
                        continue
                    met.add((word, on_rung(book, pattern, "closed")))
                    live = desk_of(book)
                    lines = [tuple(liveoutright.first_line(book, draw.choice(found))) for _ in range(2)]
                    live.do_all((("branch", 0), ("line", 0, lines[0]), ("line", 1, lines[1])))
                    last = ((word, 0, 1), ("undo", 0, pattern))
                    self.assertEqual(
                        live.tried((("undo", 0, pattern), ("undo", 1, pattern)) + last)[0], live.tried(last)[0])
        self.assertEqual(met, set(product(("least", "greatest"), (True, False))))


class Logs(unittest.TestCase):
    def test_cut_log(self):
        log = (("day",), ("thing",), ("turn", 0))
        for many in (0, 1, 2, 3, 4, 10 ** 40):
            self.assertTrue(same(cut_log(log, many), (log[:many], log[many:])))
        self.assertEqual(cut_log((), 3), ((), ()))
        for value in (None, [], [("day",)], ("day",), (("day",), None), "day", 0, ((),), (("turn", True),)):
            self.assertEqual(refused(cut_log, value, None), ("NotUsable", "log", -1), value)
        for many in ODD:
            if not (outright.is_int(many) and many >= 0):
                self.assertEqual(refused(cut_log, log, many), ("NotUsable", "many", -1), many)
        self.assertEqual(cut_log(many=1, log=log), (log[:1], log[1:]))

    def test_days(self):
        draw = random.Random(337)
        for first, events in drawn_desks(draw, STARTS, 30, 40):
            model, wanted, good = Model(first), [], []
            for event in events:
                for one in (event, ("day",)) if draw.random() < 0.3 else (event,):
                    if model.barred(one) is None:
                        model.go(one)
                        good.append(one)
                        if one[0] == "day":
                            wanted.append(tuple(len(turned) for turned in model.now[1]))
            self.assertTrue(same(days_of(first[0], first[1], tuple(good)), tuple(wanted)))
        log = (("exchange", 0, 0, 1), ("day",), ("branch", 0), ("exchange", 1, 0, 2), ("day",), ("day",), ("turn", 0))
        self.assertEqual(days_of(4, PAIR[1], log), ((1,), (1, 2), (1, 2)))
        self.assertEqual(days_of(4, PAIR[1], ()), ())

    def test_errors_in_sequence(self):
        bad = (("day",), ("turn", 1), ("turn", 2))
        for call in (replayed, days_of):
            for size in ODD + (0, -1):
                if not (outright.is_int(size) and size >= 1):
                    self.assertEqual(refused(call, size, None, None), ("NotUsable", "size", -1), size)
            for lists in (None, [], [(0, 1)], "01", 0, True):
                self.assertEqual(refused(call, 3, lists, None), ("NotUsable", "lists", -1), lists)
            for lists, k in ((((0, 1), None), 1), (((0,),), 0), (((0, 0),), 0), (((0, True),), 0), (([0, 1],), 0), (((0, 1, 2), (0, 3)), 1)):
                self.assertEqual(refused(call, 3, lists, None), ("NotUsable", "lists", k), lists)
            for log in (None, [], [("day",)], ("day",), (("day",), None), "day", 0, (("turn", True),)):
                self.assertEqual(refused(call, 4, GAP[1], log), ("NotUsable", "log", -1), log)
            outcome = refused(call, 4, GAP[1], bad)
            self.assertEqual((outcome[0], lets_joint(GAP, outcome[1])), ("Unjointed", "gap"))
            self.assertEqual(refused(call, 4, PAIR[1], bad), ("InvalidEvent", ("turn", 1), "branch"))
            self.assertEqual(refused(lambda: call(log=bad[:1], lists=LIST[1], size=3))[0], "gives")
        self.assertTrue(replayed(3, ((2, 0, 1),), ()) == Desk(3, (0, 1, 2)))
        self.assertIsInstance(replayed(1, (), (("day",),)), Desk)


if __name__ == "__main__":
    unittest.main()
