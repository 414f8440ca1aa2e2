"""[50], [51], [52]: the turn, ropes as texts, Reasons objects."""
import random
import unittest

import outright
from outright import FIVE, GAP, JOINTED, LIST, LOOP, ODD, PAIR, refused, same
from listbylist.joints import lets_joint
from listbylist.merging import least_common
from listbylist.reasonclasses import Reasons
from listbylist.reasons import reasons_of
from listbylist.rising import rise_reasons
from listbylist.ropetexts import read_rope, read_ropes, rope_line, ropes_text
from listbylist.turning import turn_back, turn_of, turn_round

LAST = ((0, 1), (0, 2), (1, 2))
LARGE = (outright.band_book(10, 6), outright.band_book(10, 4), (10, ((0, 1, 2, 3, 4), (4, 5, 6, 7), (3, 4, 9), (8, 9))))


class Turns(unittest.TestCase):
    def test_examples(self):
        wanted = (((0, 1),), ((0, 2), (1, 2)), ((1, 2),), ((0, 1), (0, 2)))
        self.assertEqual(turn_round(LIST, ((0, 1),)), wanted)
        self.assertEqual(turn_of(LIST, ()), LAST)
        self.assertEqual(turn_round(LIST, ()), ((), LAST))

    def test_over_all_sortings(self):
        for book in JOINTED + (FIVE,):
            found = outright.sortings(book)
            by_reasons = {outright.reasons(book, one): one for one in found}
            by_rises = {outright.rise_reasons(book, one): one for one in found}
            turns = {one: by_rises[outright.reasons(book, one)] for one in found}
            for one in found:
                self.assertTrue(same(turn_of(book, one), turns[one]))
                self.assertTrue(same(turn_back(book, one), by_reasons[outright.rise_reasons(book, one)]))
                self.assertEqual(turn_back(book, turn_of(book, one)), one)
                self.assertEqual(turn_of(book, turn_back(book, one)), one)
            self.assertEqual(turn_of(book, ()), outright.ties(book))
            for one in found[::1 + len(found) // 20]:
                wanted = [one]
                while turns[wanted[-1]] != one:
                    wanted.append(turns[wanted[-1]])
                self.assertTrue(same(turn_round(book, one), tuple(wanted)))
        self.assertEqual(turn_round((3, ()), ()), ((),))

    def test_more_things(self):
        draw = random.Random(111)
        for book in LARGE:
            for _ in range(8):
                line = list(range(book[0]))
                draw.shuffle(line)
                one = outright.by_line(book, line)
                turned = turn_of(book, one)
                self.assertEqual(rise_reasons(book, turned), reasons_of(book, one))
                self.assertEqual(turn_back(book, turned), one)


def rope_fault(book, text):
    """The first field that does not fit, or 1 if there is only one and it fits; or None."""
    fields = text.split(" ")
    if fields[0] not in [str(x) for x in range(book[0])]:
        return 0
    low = int(fields[0])
    highs = {f"{high}:": high for high in range(low + 1, book[0]) if outright.tied(book, low, high)}
    if len(fields) == 1 or fields[1] not in highs:
        return 1
    middle = [str(x) for x in outright.between(book, (low, highs[fields[1]]))]
    for at in range(2, len(fields)):
        if fields[at] not in middle or (at > 2 and int(fields[at]) <= int(fields[at - 1])):
            return at
    return None


def texts_near(draw, line):
    """Texts with something changed."""
    yield line
    fields = line.split(" ")
    for k in range(len(fields)):
        for more in ("", "0", "1", "2", "4", "01", "+1", "-1", "1:", "2:", ":", "1 ", "x", "1_0", "9" * 40, "1\n"):
            yield " ".join(fields[:k] + [more] + fields[k + 1:])
            yield " ".join(fields[:k] + [more] + fields[k:])
        yield " ".join(fields[:k] + fields[k + 1:])
        yield " ".join(fields[:k])
        yield " ".join(fields[:k] + fields[k:k + 1] + fields[k:])
    for _ in range(20):
        at = draw.randrange(len(line) + 1)
        yield line[:at] + draw.choice(" :0123-;\n") + line[at + draw.randrange(2):]
    yield from (line + " ", " " + line, line + " 1", line + "\n", line.replace(" ", "  ", 1), "", " ", ":")


class Texts(unittest.TestCase):
    def test_examples(self):
        self.assertEqual(rope_line(LIST, (0, 2, (1,))), "0 2: 1")
        self.assertEqual(rope_line(LIST, (0, 1, ())), "0 1:")
        self.assertEqual(refused(read_rope, LIST, "0 2: 2"), ("InvalidText", 0, 2))
        self.assertEqual(refused(read_ropes, LIST, "1 2:\n0 1:"), ("InvalidRow", 1))
        self.assertEqual((ropes_text(LIST, ()), read_ropes(LIST, "")), ("", ()))
        self.assertEqual(rope_line((10, ((0, 9),)), (0, 9, ())), "0 9:")

    def test_there_and_back(self):
        draw = random.Random(112)
        for book in JOINTED + (FIVE, outright.band_book(10, 4)):
            ropes = outright.ropes(book)
            for rope in ropes:
                low, high, front = rope
                line = f"{low} {high}:" + "".join(f" {x}" for x in front)
                self.assertEqual(rope_line(book, rope), line)
                self.assertTrue(same(read_rope(book, line), rope))
            for _ in range(6):
                some = tuple(sorted(draw.sample(ropes, draw.randrange(len(ropes) + 1))))
                text = "\n".join(rope_line(book, rope) for rope in some)
                self.assertEqual(ropes_text(book, some), text)
                self.assertTrue(same(read_ropes(book, text), some))

    def test_eleven_things_and_more(self):
        book = (12, ((0, 1, 10, 11),))
        self.assertEqual(rope_line(book, (0, 11, (1, 10))), "0 11: 1 10")
        self.assertEqual(read_rope(book, "0 11: 1 10"), (0, 11, (1, 10)))
        self.assertEqual(refused(read_rope, book, "0 11: 10 1"), ("InvalidText", 0, 3))

    def test_faults(self):
        draw = random.Random(113)
        met = set()
        for book in (LIST, PAIR, FIVE, (1, ()), (4, ((0, 1), (1, 2), (2, 3)))):
            for rope in outright.ropes(book) or [(0, 1, ())]:
                low, high, front = rope
                line = f"{low} {high}:" + "".join(f" {x}" for x in front)
                for text in texts_near(draw, line):
                    fault = rope_fault(book, text)
                    met.add(fault)
                    outcome = refused(read_rope, book, text)
                    if fault is None:
                        self.assertEqual((outcome[0], rope_line(book, outcome[1])), ("gives", text))
                    else:
                        self.assertEqual(outcome, ("InvalidText", 0, fault), (book, text))
        self.assertGreaterEqual(met, {None, 0, 1, 2, 3, 4})

    def test_first_field(self):
        for text, field in (
            ("", 0), (" ", 0), ("0", 1), ("0 ", 1), ("3", 0), ("2", 1), ("2 1:", 1), ("0 1", 1), ("0 0:", 1), ("0 3:", 1),
            ("00 1:", 0), ("0 01:", 1), ("0 1: ", 2), ("0 2:1", 1), ("0 2: 1 1", 3), ("0 2: 1 ", 3), ("0 2: 0", 2),
            ("0 1:\n", 1), ("\n0 1:", 0), ("0: 1", 0), ("-0 1:", 0), ("0 1: 2", 2), ("x 9", 0), ("0 2:  1", 2),
        ):
            self.assertEqual(refused(read_rope, LIST, text), ("InvalidText", 0, field), text)
        self.assertEqual(refused(read_rope, (3, ((1, 2),)), "0"), ("InvalidText", 0, 1))

    def test_lines(self):
        for text, outcome in (
            ("\n", ("InvalidText", 0, 0)), ("0 1:\n", ("InvalidText", 1, 0)), ("\n0 1:", ("InvalidText", 0, 0)),
            ("0 1:\n0 2", ("InvalidText", 1, 1)), ("1 2:\n0 1:\n0 2: 2", ("InvalidText", 2, 2)),
            ("0 1:\n0 1:", ("InvalidRow", 1)), ("0 1:\n0 2: 1\n0 2:", ("InvalidRow", 2)),
            ("1 2:\n0 2:\n0 1:", ("InvalidRow", 1)), ("0 1:\n\n0 2:", ("InvalidText", 1, 0)),
            ("0 1: \n0 2:", ("InvalidText", 0, 2)), ("0 1:\n0 2:", ("gives", ((0, 1, ()), (0, 2, ())))),
        ):
            self.assertEqual(refused(read_ropes, LIST, text), outcome, text)

    def test_drawn_lines(self):
        draw = random.Random(114)
        met = set()
        for book in (LIST, PAIR, FIVE):
            ropes = outright.ropes(book)
            for _ in range(300):
                some = [draw.choice(ropes) for _ in range(draw.choice((1, 2, 2, 3)))]
                if draw.random() < 0.7:
                    some.sort()
                lines = [rope_line(book, rope) for rope in some]
                if draw.random() < 0.5:
                    k = draw.randrange(len(lines))
                    lines[k] = draw.choice([text for text in texts_near(draw, lines[k]) if "\n" not in text])
                text = "\n".join(lines)
                wrong = [] if text == "" else [
                    (k, rope_fault(book, line)) for k, line in enumerate(lines) if rope_fault(book, line) is not None]
                rows = [k for k in range(1, len(some)) if not wrong and read_rope(book, lines[k]) <= read_rope(
                    book, lines[k - 1])]
                outcome = refused(read_ropes, book, text)
                met.add(outcome[0])
                if wrong:
                    self.assertEqual(outcome, ("InvalidText", *wrong[0]), text)
                elif rows:
                    self.assertEqual(outcome, ("InvalidRow", rows[0]), text)
                else:
                    self.assertEqual((outcome[0], ropes_text(book, outcome[1])), ("gives", text))
        self.assertEqual(met, {"InvalidText", "InvalidRow", "gives"})

    def test_no_strings(self):
        for value in (None, 1, True, (), ("0 1:",), ["0 1:"], (0, 1, ())):
            for call in (read_rope, read_ropes):
                self.assertEqual(refused(call, LIST, value), ("NotUsable", "text", -1), value)


class Objects(unittest.TestCase):
    def test_as_the_functions(self):
        for book in JOINTED:
            for sorting in outright.sortings(book)[::3]:
                one = Reasons(book, sorting)
                self.assertTrue(same(one.ropes(), outright.reasons(book, sorting)))
                self.assertEqual(len(one), len(outright.reasons(book, sorting)))
                self.assertTrue(same(one.told(), (book, sorting)))
                turned = one.turned_on()
                self.assertIsInstance(turned, Reasons)
                self.assertEqual(turned.told(), (book, turn_of(book, sorting)))
                self.assertEqual(one.told(), (book, sorting))

    def test_merged(self):
        draw = random.Random(115)
        for book in JOINTED:
            found = outright.sortings(book)
            for _ in range(8):
                one, other = draw.choice(found), draw.choice(found)
                first, second = Reasons(book, one), Reasons(book, other)
                merged = first.merged(other=second)
                self.assertIsInstance(merged, Reasons)
                self.assertEqual(merged.told(), (book, least_common(book, (one, other))))
                self.assertEqual((first.told(), second.told()), ((book, one), (book, other)))
        one = Reasons(LIST, ((0, 1),))
        for other in (None, ((0, 1),), one.told(), Reasons(PAIR, ()), Reasons((3, ((0, 1, 2), (0, 1))), ()), 1, "one"):
            self.assertEqual(refused(one.merged, other), ("NotUsable", "other", -1), other)

    def test_equal(self):
        one = Reasons(LIST, ((0, 1),))
        self.assertTrue(one == Reasons(LIST, ((0, 1),)))
        self.assertFalse(one != Reasons(book=LIST, sorting=((0, 1),)))
        three = (3, ((0, 1), (0, 2), (1, 2)))
        for other in (Reasons(LIST, ()), Reasons(LIST, ((0, 1), (0, 2))), Reasons(three, ((0, 1),)), one.told(), None, 1,
                      Reasons((4, ((0, 1, 2),)), ((0, 1),)), one.ropes()):
            self.assertFalse(one == other)
            self.assertTrue(one != other)
        self.assertFalse(Reasons(LIST, ()) == Reasons(three, ()))

    def test_wrong_inputs(self):
        for book in ODD + ([3, ()], (0, ()), (3, ((0, True, 2),)), (3, [(0, 1)])):
            if not outright.is_book(book):
                self.assertEqual(refused(Reasons, book, None), ("NotUsable", "book", -1), book)
        for book in (GAP, LOOP, outright.ring_book(6), (5, ((0, 1, 4), (0, 2, 4)))):
            for sorting in ((), None):
                outcome = refused(Reasons, book, sorting)
                self.assertEqual(outcome[0], "Unjointed", book)
                self.assertIn(lets_joint(book, outcome[1]), ("ring", "gap"))
        for sorting in ODD + (((0, 1), (1, 2)), ((0, 3),), [], [(0, 1)], ((False, 1),)):
            if not outright.is_sorting(LIST, sorting):
                self.assertEqual(refused(Reasons, LIST, sorting), ("NotUsable", "sorting", -1), sorting)


if __name__ == "__main__":
    unittest.main()
