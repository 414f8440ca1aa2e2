"""[91]: events and logs as texts, and a desk asked and told by lines."""
import random
import unittest

import liveoutright
import outright
from liveoutright import FIELDS, WORDS, drawn_desks, named
from outright import LIST, ODD, PAIR, changes, refused, same
from listbylist.desk import desk_line
from listbylist.eventtexts import event_line, log_text, read_event, read_log
from listbylist.live import Desk
from listbylist.replaying import replayed
from test_events import STARTS, some_events
from test_patterns import fields_of, numeral, texts_near
from test_turns import rope_fault

BIG = 10 ** 40


class Wrong(Exception):
    """The field at this place can't stand there, or is missing."""


def is_loose_rope(value):
    return (
        type(value) is tuple and len(value) == 3 and all(map(liveoutright.is_number, value[:2])) and value[0] < value[1]
        and type(value[2]) is tuple and all(outright.is_int(x) and value[0] < x < value[1] for x in value[2])
        and list(value[2]) == sorted(set(value[2])))


def is_loose_pattern(value):
    """A pattern with ropes of any books."""
    if type(value) is not tuple or not value or type(value[0]) is not str:
        return False
    word, parts = value[0], value[1:]
    if word in ("ropes", "above"):
        return len(parts) == 1 and type(parts[0]) is tuple and all(map(is_loose_rope, parts[0])) and list(
            parts[0]) == sorted(set(parts[0]))
    many = {"not": 1, "both": 2, "either": 2}
    if word in many:
        return len(parts) == many[word] and all(map(is_loose_pattern, parts))
    if word in ("amid", "ahead", "behind"):
        return len(parts) == 1 and liveoutright.is_number(parts[0])
    return word in ("all", "none") and not parts


def can_be_written(value):
    return liveoutright.is_event(value) and is_loose_pattern(named(value).get("pattern", ("all",)))


def words_of(event):
    """The fields of the event's line."""
    found = [event[0]]
    for name, field in named(event).items():
        found += fields_of(field) if name == "pattern" else [str(x) for x in (field if type(field) is tuple else (field,))]
    return found


def due(fields, at, stands):
    """The number at this place, if it stands there."""
    if at >= len(fields):
        raise Wrong(len(fields))
    number = numeral(fields[at])
    if number is None or not stands(number):
        raise Wrong(at)
    return number


def behind_ropes(fields, at):
    many, last = due(fields, at, lambda n: True), None
    at += 1
    for _ in range(min(many, len(fields) + 1)):
        start = at
        low = due(fields, at, lambda n: True)
        high = due(fields, at + 1, lambda n: n > low)
        count = due(fields, at + 2, lambda n: n <= high - low - 1)
        at += 3
        front = ()
        for _ in range(min(count, len(fields) + 1)):
            front += (due(fields, at, lambda n: low < n < high and (not front or n > front[-1])),)
            at += 1
        if last is not None and (low, high, front) <= last:
            raise Wrong(start)
        last = (low, high, front)
    return at


def behind_pattern(fields, at):
    """The place behind the pattern that begins here, in a book of one list of all numbers."""
    if at >= len(fields):
        raise Wrong(len(fields))
    word = fields[at]
    if word not in outright.WORDS:
        raise Wrong(at)
    at += 1
    if word in ("ropes", "above"):
        return behind_ropes(fields, at)
    if word in ("amid", "ahead", "behind"):
        due(fields, at, lambda n: True)
        return at + 1
    for _ in range({"not": 1, "both": 2, "either": 2}.get(word, 0)):
        at = behind_pattern(fields, at)
    return at


def behind_event(fields):
    """The place behind the fields of the event."""
    if fields[0] not in FIELDS:
        raise Wrong(0)
    at, low = 1, None
    for name in FIELDS[fields[0]]:
        if name == "things":
            last, start = -1, at
            while at < len(fields) or at < start + 2:
                last = due(fields, at, lambda n: n > last)
                at += 1
        elif name == "line":
            line = fields[at:]
            for k in range(len(line)):
                due(fields, at + k, lambda n: n < len(line) and line[k] not in line[:k])
            at = len(fields)
        elif name == "pattern":
            at = behind_pattern(fields, at)
        else:
            low = due(fields, at, lambda n: name != "high" or n > low)
            at += 1
    return at


def event_fault(text):
    """The first field that can't stand there, or how many there are if the text ends too soon; or None."""
    fields = text.split(" ")
    try:
        at = behind_event(fields)
    except Wrong as wrong:
        return wrong.args[0]
    return at if at < len(fields) else None


def drawn_events(draw):
    """Events that can be written."""
    for event in some_events(draw):
        if can_be_written(event):
            yield event
    deep = ("not", ("both", ("either", ("ropes", ((3, 9, (4, 7)), (BIG, BIG + 5, (BIG + 1,)))), ("amid", BIG)), ("above", ())))
    yield from (("undo", BIG, deep), ("look", deep), ("look", ("ropes", ())), ("list", (0, BIG)), ("line", 4, ()), ("drop", 10))


class Events(unittest.TestCase):
    def test_examples(self):
        self.assertEqual(event_line(("undo", 0, ("ropes", ((0, 2, (1,)),)))), "undo 0 ropes 1 0 2 1 1")
        self.assertEqual(refused(read_log, "branch 0\nturn 2"), ("InvalidRow", 1))
        self.assertEqual((event_line(("day",)), event_line(("line", 0, ())), log_text(())), ("day", "line 0", ""))

    def test_there_and_back(self):
        draw = random.Random(341)
        met = set()
        for event in drawn_events(draw):
            met.add(event[0])
            line = " ".join(words_of(event))
            self.assertTrue(same(event_line(event), line))
            self.assertTrue(same(read_event(line), event))
        self.assertEqual(met, set(WORDS))

    def test_what_can_be_written(self):
        draw = random.Random(342)
        met = set()
        for event in drawn_events(draw):
            values = list(changes(event)) + list(outright.rebooled(event))
            for value in draw.sample(values, min(15, len(values))):
                wanted = can_be_written(value)
                met.add(wanted)
                if wanted:
                    self.assertEqual(event_line(value), " ".join(words_of(value)))
                else:
                    self.assertEqual(refused(event_line, value), ("NotUsable", "event", -1), value)
                    self.assertEqual(refused(log_text, (("day",), value)), ("NotUsable", "log", -1), value)
        self.assertEqual(met, {True, False})
        for value in ODD + (("undo", 0, ()), ("look", ("all", 1)), ("look", ("ropes", ((1, 0, ()),))), ("look", ("ropes", ((0, 2, (2,)),))),
                            ("look", ("ropes", ((1, 3, (1,)),))), ("look", ("above", ((0, 3, (2, 1)),))),
                            ("look", ("ropes", ((0, 1, ()), (0, 1, ())))), ("turn", True),
                            ("look", ("ropes", ((0, 2, [1]),))), ("look", ("ropes", ((0, 2, (True,)),))), ("look", ("ropes", ((0, True, ()),)))):
            self.assertEqual(refused(event_line, value), ("NotUsable", "event", -1), value)
        for value in (None, [], [("day",)], ("day",), "day", (("day",), None)):
            self.assertEqual(refused(log_text, value), ("NotUsable", "log", -1), value)
        self.assertEqual(event_line(event=("look", ("not", ("all",)))), "look not all")
        self.assertEqual(log_text(log=(("day",), ("thing",))), "day\nthing")

    def test_faults(self):
        draw = random.Random(343)
        met = set()
        for event in drawn_events(draw):
            line = " ".join(words_of(event))
            texts = list(texts_near(draw, line)) + [
                line.replace(event[0], word, 1) for word in WORDS]
            for text in draw.sample(texts, min(60, len(texts))):
                if sum(text.split(" ").count(word) for word in ("not", "both", "either")) > 8:
                    continue
                fault, outcome = event_fault(text), refused(read_event, text)
                met.add((text.split(" ")[0] if fault is None else "", fault is None))
                if fault is None:
                    self.assertEqual((outcome[0], " ".join(words_of(outcome[1]))), ("gives", text))
                    self.assertTrue(can_be_written(outcome[1]))
                else:
                    self.assertEqual(outcome, ("InvalidText", 0, fault), text)
        self.assertEqual(met, {(word, True) for word in WORDS} | {("", False)})

    def test_first_field(self):
        for text, field in (
            ("", 0), (" ", 0), ("days", 0), ("Day", 0), (" day", 0), ("day ", 1), ("day 0", 1), ("thing 1", 1), ("list", 1), ("list ", 1),
            ("list 0", 2), ("list 0 ", 2), ("list 1 0", 2), ("list 0 0", 2), ("list 0 1 1", 3), ("list 0 1 ", 3), ("list 01 2", 1), ("drop", 1),
            ("drop 00", 1), ("drop 0 0", 2), ("drop -1", 1), ("branch x", 1), ("exchange 0", 2), ("exchange 0 1", 3), ("exchange 0 1 1", 3),
            ("exchange 0 1 0", 3), ("exchange 0 1 2 3", 4), ("exchange  0 1", 1), ("line", 1), ("line 0 ", 2), ("line 0 1", 2), ("line 0 0 0", 3),
            ("line 0 1 2", 3), ("line 0 0 2", 3), ("line 0 1 0 ", 2 + 2), ("least 0", 2), ("least 0 1 2", 3), ("greatest a 1", 1), ("undo", 1),
            ("undo 0", 2), ("undo 0 al", 2), ("undo 0 all all", 3), ("undo 0 not", 3), ("undo 0 both all", 4), ("undo 0 amid 01", 3),
            ("undo 0 ropes 1 5 5", 5), ("undo 0 ropes 1 5 7 2", 6), ("undo 0 ropes 1 5 7 1 5", 7), ("undo 0 ropes 1 5 7 1 7", 7),
            ("undo 0 ropes 1 5 8 2 7 6", 8), ("undo 0 ropes 1 5 8 2 6 6", 8), ("undo 0 ropes 1 5 9 3 6 8 7", 9),
            ("undo 0 ropes 2 0 2 0 0 1 0", 7), ("undo 0 ropes 1 5 7 1", 7), ("turn", 1), ("turn 0 ", 2),
            ("look", 1), ("look ropes 3", 3), ("look ahead 1 ", 3), ("look all\n", 1), ("day\n", 0), ("orders 0", 0),
        ):
            self.assertEqual(event_fault(text), field, text)
            self.assertEqual(refused(read_event, text), ("InvalidText", 0, field), text)
        big = str(BIG)
        self.assertEqual(read_event(f"look ropes 1 0 {big} 1 7"), ("look", ("ropes", ((0, BIG, (7,)),))))
        self.assertEqual(refused(read_event, f"look ropes 1 0 {big} {big}"), ("InvalidText", 0, 5))
        self.assertEqual(refused(read_event, f"look ropes 1 0 {big} 9 1 2"), ("InvalidText", 0, 8))
        self.assertEqual(read_event(text="line 3"), ("line", 3, ()))
        for value in (None, 1, True, ("day",), ["day"], ()):
            self.assertEqual(refused(read_event, value), ("NotUsable", "text", -1), value)


def log_fault(text):
    """What read_log refuses, by its words; None if nothing."""
    lines = text.split("\n") if text else []
    for k, line in enumerate(lines):
        if event_fault(line) is not None:
            return ("InvalidText", k, event_fault(line))
    branches = 0
    for k, line in enumerate(lines):
        told = named(read_event(line))
        if any(told.get(name, 0) > branches for name in ("branch", "other")):
            return ("InvalidRow", k)
        branches += line.startswith("branch")
    return None


class Logs(unittest.TestCase):
    def test_there_and_back(self):
        draw = random.Random(344)
        for first, events in drawn_desks(draw, STARTS, 30, 20):
            live = Desk(first[0], *first[1])
            for event in events:
                if live.barred(event) is None:
                    live.go(event)
            text = "\n".join(" ".join(words_of(event)) for event in live.log())
            self.assertEqual(log_text(live.log()), text)
            self.assertTrue(same(read_log(text), live.log()))
            self.assertTrue(replayed(first[0], first[1], read_log(text)) == live)

    def test_faults(self):
        draw = random.Random(345)
        met = set()
        every = [" ".join(words_of(event)) for event in drawn_events(draw)]
        for _ in range(500):
            lines = draw.sample(every, draw.randrange(4)) + draw.choices(
                ("branch 0", "branch 0", "turn 0", "turn 1", "turn 2", "least 0 1", "greatest 2 0", "day", "undo 1 all", "list 8 9"), k=4)
            if draw.random() < 0.4:
                lines[draw.randrange(len(lines))] = draw.choice(("", "day ", "turn", "line 0 1", "list 0", "least 0", "look al", " "))
            draw.shuffle(lines)
            text = "\n".join(lines)
            wanted = log_fault(text)
            met.add(wanted and wanted[0])
            outcome = refused(read_log, text)
            if wanted is None:
                self.assertEqual((outcome[0], log_text(outcome[1])), ("gives", text))
            else:
                self.assertEqual(outcome, wanted, text)
        self.assertEqual(met, {None, "InvalidText", "InvalidRow"})

    def test_edges(self):
        self.assertEqual((read_log(""), read_log("day"), read_log("day\nday")), ((), (("day",),), (("day",),) * 2))
        for text, wanted in (
            ("\n", ("InvalidText", 0, 0)), ("day\n", ("InvalidText", 1, 0)), ("day\n\nday", ("InvalidText", 1, 0)), (" ", ("InvalidText", 0, 0)),
            ("turn 1\nday ", ("InvalidText", 1, 1)), ("turn 1", ("InvalidRow", 0)), ("turn 0\nleast 0 1", ("InvalidRow", 1)),
            ("branch 1", ("InvalidRow", 0)), ("branch 0\nbranch 1\nbranch 3", ("InvalidRow", 2)), ("branch 0\nleast 2 0", ("InvalidRow", 1)),
            ("day\nlist 0 1\nlist 1", ("InvalidText", 2, 2)),
        ):
            self.assertEqual(refused(read_log, text), wanted, text)
        # Of a book it knows nothing.
        self.assertEqual(read_log("exchange 0 7 9\ndrop 5\nbranch 0\nturn 1")[1], ("drop", 5))
        for value in (None, 1, (), [], (("day",),), True):
            self.assertEqual(refused(read_log, value), ("NotUsable", "text", -1), value)
        self.assertEqual(read_log(text="day"), (("day",),))


def answer_fault(live, text):
    """The first field of a question that can't stand there, or how many there are; or None."""
    fields = text.split(" ")
    branches = {"orders": 1, "reasons": 1, "same": 2, "apart": 2, "many": 0}
    if fields[0] == "who":
        if len(fields) == 1:
            return 1
        fault = rope_fault(live.book_now(), " ".join(fields[1:]))
        return None if fault is None else fault + 1
    if fields[0] not in branches:
        return 0
    many = branches[fields[0]]
    for at in range(1, many + 1):
        if at == len(fields) or numeral(fields[at]) not in range(len(live.branches_now())):
            return at
    return many + 1 if len(fields) > many + 1 else None


def answer_words(live, text):
    """The answer to a question that can be asked."""
    word, *fields = text.split(" ")
    book, branches = live.book_now(), live.branches_now()
    if word == "many":
        return str(len(outright.sortings(book)))
    if word == "who":
        rope = (int(fields[0]), int(fields[1][:-1]), tuple(map(int, fields[2:])))
        return " ".join(str(k) for k, one in enumerate(branches) if outright.shows(book, one, rope))
    one = branches[int(fields[0])]
    if word == "orders":
        return "; ".join(
            " ".join(map(str, sorted(things, key=lambda x: sum(outright.ahead(one, y, x) for y in things if y != x))))
            for things in book[1])
    if word == "reasons":
        return "\n".join(" ".join([f"{low} {high}:", *map(str, front)]) for low, high, front in outright.reasons(book, one))
    other = branches[int(fields[1])]
    if word == "apart":
        return str(len(set(one) ^ set(other)))
    ends = [liveoutright.end_by_steps(book, x, live.view_now()) for x in (one, other)]
    return "yes" if ends[0] == ends[1] else "no"


def rope_line(rope):
    return " ".join([f"{rope[0]} {rope[1]}:", *map(str, rope[2])])


class Lines(unittest.TestCase):
    def test_examples(self):
        live = Desk(4, (0, 1, 2), (1, 2, 3))
        self.assertEqual([desk_line(live, text) for text in ("exchange 0 0 1", "branch 0", "exchange 1 0 2")], ["done"] * 3)
        self.assertEqual(desk_line(live, "who 0 2: 1"), "1")
        for text, wanted in (
            ("orders 0", "1 0 2; 1 2 3"), ("reasons 1", "0 2: 1"), ("same 0 1", "no"), ("same 1 1", "yes"), ("apart 0 1", "1"),
            ("many", "18"), ("who 0 1:", "0 1"), ("who 0 2:", ""), ("look ahead 1", "done"), ("same 0 1", "yes"), ("turn 0", "done"),
        ):
            self.assertTrue(same(desk_line(live, text), wanted), text)
        self.assertEqual(desk_line(Desk(2), "orders 0"), "")
        self.assertEqual((desk_line(Desk(2), "reasons 0"), desk_line(Desk(2), "many")), ("", "1"))

    def test_by_the_words(self):
        draw = random.Random(346)
        met = set()
        for first, events in drawn_desks(draw, [book for book in STARTS if book[0] < 5], 20, 20):
            live, other = Desk(first[0], *first[1]), Desk(first[0], *first[1])
            for event in events:
                if not can_be_written(event):
                    continue
                reason = other.barred(event)
                outcome = refused(desk_line, live, " ".join(words_of(event)))
                if reason is None:
                    other.go(event)
                    self.assertEqual(outcome, ("gives", "done"))
                else:
                    self.assertEqual(outcome, ("InvalidEvent", event, reason))
                self.assertTrue(live == other)
                many = len(live.branches_now())
                texts = ["many"] + [f"{word} {draw.randrange(many)}" for word in ("orders", "reasons")]
                texts += [f"{word} {draw.randrange(many)} {draw.randrange(many)}" for word in ("same", "apart")]
                texts += ["who " + rope_line(draw.choice(outright.ropes(live.book_now())))] if outright.ropes(live.book_now()) else []
                for text in texts:
                    near = draw.sample(sorted(set(texts_near(draw, text))), 6)
                    near += [text + " ", text + " 0", text.rpartition(" ")[0], text.replace(" 0", " 00"), text + "1"]
                    for line in [text] + near:
                        if line.split(" ")[0] in FIELDS:
                            continue
                        fault = answer_fault(live, line)
                        met.add((line.split(" ")[0] if fault is None else "", fault is None))
                        outcome = refused(desk_line, live, line)
                        if fault is None:
                            self.assertTrue(same(outcome, ("gives", answer_words(live, line))), line)
                        else:
                            self.assertEqual(outcome, ("InvalidText", 0, fault), (live.book_now(), line))
                self.assertTrue(live == other)
        self.assertEqual(met, {(word, True) for word in ("orders", "reasons", "same", "apart", "many", "who")} | {("", False)})

    def test_first_field(self):
        live = Desk(4, (0, 1, 2), (1, 2, 3))
        desk_line(live, "branch 0")
        for text, field in (
            ("", 0), (" ", 0), ("order 0", 0), ("Orders 0", 0), ("orders", 1), ("orders ", 1), ("orders 2", 1), ("orders 00", 1), ("orders -1", 1),
            ("orders 0 0", 2), ("orders 0 ", 2), ("reasons x", 1), ("same 0", 2), ("same 2 9", 1), ("same 0 2", 2), ("same 0 1 1", 3), ("apart", 1),
            ("apart 0 01", 2), ("many 0", 1), ("many ", 1), ("who", 1), ("who ", 1), ("who 0", 2), ("who 4", 1), ("who 0 3:", 2), ("who 0 1", 2),
            ("who 0 2: 2", 3), ("who 0 2: ", 3), ("who 0 2: 1 1", 4), ("who 01 2:", 1), ("day ", 1), ("exchange 0 1", 3), ("turn 00", 1), ("line 0 4", 2),
            ("undo 0 ropes", 3),
        ):
            before = live.log()
            self.assertEqual(refused(desk_line, live, text), ("InvalidText", 0, field), text)
            self.assertEqual(live.log(), before)
        for text, event, reason in (
            ("turn 2", ("turn", 2), "branch"), ("exchange 0 0 3", ("exchange", 0, 0, 3), "tie"), ("exchange 0 0 9", ("exchange", 0, 0, 9), "thing"),
            ("undo 0 ropes 1 0 3 0", ("undo", 0, ("ropes", ((0, 3, ()),))), "pattern"), ("look not all", ("look", ("not", ("all",))), "pattern"),
            ("line 0", ("line", 0, ()), "thing"), ("drop 2", ("drop", 2), "listed"), ("exchange 0 0 2", ("exchange", 0, 0, 2), "held"),
            ("undo 0 ropes 2 0 1 0 1 2 0", ("undo", 0, ("ropes", ((0, 1, ()), (1, 2, ())))), "uneven"),
        ):
            self.assertEqual(refused(desk_line, live, text), ("InvalidEvent", event, reason), text)

    def test_wrong_inputs(self):
        for value in ODD + (PAIR, LIST, Desk):
            self.assertEqual(refused(desk_line, value, None), ("NotUsable", "live", -1), value)
        for value in (None, 1, True, ("day",), ["day"], ()):
            self.assertEqual(refused(desk_line, Desk(3), value), ("NotUsable", "text", -1), value)
        live = Desk(3)
        self.assertEqual(desk_line(text="list 0 1 2", live=live), "done")
        self.assertEqual(live.log(), (("list", (0, 1, 2)),))


if __name__ == "__main__":
    unittest.main()
