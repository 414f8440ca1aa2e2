"""[9], [10], [53] to [55], [62]: patterns, what they tell, their lines, pieces of ropes."""
import random
import unittest

import outright
from outright import FIVE, JOINTED, LIST, ODD, PAIR, WORDS, changes, each_word, refused, same
from listbylist.patternkinds import is_pattern, is_plain
from listbylist.patternlots import in_pattern, pattern_ropes
from listbylist.patterntexts import pattern_line, read_pattern
from listbylist.pieces import cut_rope, is_piece, pieces_of
from listbylist.uppers import above_of

FOUR = (4, ((0, 1, 2, 3),))
STANDS = (3, ((0, 1), (0, 2), (1, 2)))
BOOKS = (LIST, PAIR, FOUR, STANDS, (3, ()), (2, ((0, 1),)), (5, ((0, 1, 2), (2, 3, 4))))


def plain(pattern):
    return pattern[0] not in ("ropes", "above", "not") and all(plain(x) for x in pattern[1:] if type(x) is tuple)


def variants(draw, value):
    """Patterns with a word too many or too few elements, another word, or something within changed."""
    yield value
    yield list(value)
    yield value[0]
    yield value + (1,)
    yield value + (("all",),)
    yield value[:-1]
    yield from ((word, *value[1:]) for word in WORDS + ("None", "ALL", "", "rope", None, 1))
    yield from draw.sample(list(changes(value)), min(30, len(list(changes(value)))))
    yield from outright.rebooled(value)


class Kinds(unittest.TestCase):
    def test_examples(self):
        self.assertIs(is_pattern(LIST, ("above", ((0, 2, ()), (0, 1, ())))), False)
        self.assertIs(is_pattern(LIST, ("above", ((0, 1, ()), (0, 2, ())))), True)
        self.assertIs(is_plain(LIST, ("either", ("ahead", 1), ("none",))), True)

    def test_by_the_words(self):
        draw = random.Random(121)
        met = set()
        for book in BOOKS:
            for pattern in each_word(draw, book):
                for value in variants(draw, pattern):
                    wanted = outright.is_pattern(book, value)
                    self.assertIs(is_pattern(book, value), wanted, (book, value))
                    self.assertIs(is_plain(book, value), wanted and plain(value), (book, value))
                    met.add((wanted, wanted and plain(value)))
        self.assertEqual(met, {(True, True), (True, False), (False, False)})

    def test_odd_values(self):
        values = ODD + (
            ("all", ()), ("none", None), ("ropes",), ("ropes", None), ("ropes", []), ("ropes", ((0, 1, ()), (0, 1, ()))),
            ("ropes", [(0, 1, ())]), ("ropes", ((0, 3, ()),)), ("above", ((0, True, ()),)), ("amid", True), ("amid", -1),
            ("amid", "1"), ("amid", ()), ("amid", 1, 1), ("amid",), ("ahead", None), ("behind", False), ("not", "all"),
            ("not", ("all",), ("all",)), ("not", ["all"]), ("both", ("all",)), ("both", ("all",), ("all",), ("all",)),
            ("either", ("all",), "none"), ("either", ("all",), ("amid", True)), (("all",),), (["all"],), ("all", "all"))
        for value in values:
            self.assertIs(is_pattern(LIST, value), False, value)
            self.assertIs(is_plain(LIST, value), False, value)
        deep = ("all",)
        for _ in range(28):
            deep = ("not", deep)
        self.assertEqual((is_pattern(LIST, deep), is_plain(LIST, deep)), (True, False))
        self.assertIs(is_pattern(LIST, ("amid", 10 ** 40)), True)


class Lots(unittest.TestCase):
    def test_examples(self):
        self.assertEqual(pattern_ropes(LIST, ("not", ("ahead", 1))), ((0, 1, ()), (0, 2, ()), (1, 2, ())))
        for word in ("ropes", "above"):
            self.assertEqual(pattern_ropes(LIST, (word, ())), ())
        for pattern in (("all",), ("not", ("none",)), ("none",), ("ropes", ())):
            self.assertEqual(pattern_ropes((3, ()), pattern), ())

    def test_by_the_words(self):
        draw = random.Random(122)
        for book in JOINTED + (FIVE,):
            for pattern in each_word(draw, book):
                wanted = tuple(rope for rope in outright.ropes(book) if outright.tells(book, pattern, rope))
                self.assertTrue(same(pattern_ropes(book, pattern), wanted), (book, pattern))
                for rope in outright.ropes(book)[::3]:
                    self.assertIs(in_pattern(book, pattern, rope), rope in wanted)

    def test_more_ropes(self):
        draw = random.Random(123)
        book = outright.band_book(10, 4)
        for _ in range(20):
            pattern = outright.drawn_pattern(draw, book)
            self.assertEqual(pattern_ropes(book, pattern), outright.told_ropes(book, pattern))


class Pieces(unittest.TestCase):
    def test_examples(self):
        self.assertEqual(cut_rope(FOUR, (0, 3, (2,)), (1, 3)), (1, 3, (2,)))
        self.assertEqual(above_of(PAIR, ((0, 1, ()),)), ((0, 1, ()), (0, 2, ()), (0, 2, (1,))))
        self.assertEqual(above_of(PAIR, ()), ())

    def test_by_the_words(self):
        for book in JOINTED + (FIVE,):
            ropes = outright.ropes(book)
            for rope in ropes:
                wanted = outright.pieces(book, rope)
                self.assertTrue(same(pieces_of(book, rope), tuple(sorted(wanted))))
                self.assertIn(rope, wanted)
                for one in ropes:
                    self.assertIs(is_piece(book, one, rope), one in wanted)
                for tie in outright.ties(book):
                    cut = [one for one in wanted if one[:2] == tie]
                    outcome = ("gives", cut[0]) if cut else ("NotUsable", "tie", -1)
                    self.assertTrue(same(refused(cut_rope, book, rope, tie), outcome))
                self.assertEqual(above_of(book, (rope,)), tuple(
                    one for one in ropes if rope in outright.pieces(book, one)))

    def test_pieces_of_pieces(self):
        """[62]"""
        for book in JOINTED:
            for rope in outright.ropes(book):
                pieces = pieces_of(book, rope)
                for piece in pieces:
                    self.assertLessEqual(set(pieces_of(book, piece)), set(pieces))

    def test_above(self):
        draw = random.Random(124)
        for book in JOINTED + (FIVE,):
            ropes = outright.ropes(book)
            for many in (0, 1, 2, 3, len(ropes)):
                some = tuple(sorted(draw.sample(ropes, min(many, len(ropes)))))
                wanted = tuple(one for one in ropes if any(x in outright.pieces(book, one) for x in some))
                self.assertTrue(same(above_of(book, some), wanted))
                self.assertEqual(pattern_ropes(book, ("above", some)), wanted)

    def test_wrong_ties(self):
        for tie in ((0, 3), (3, 1), [1, 3], (True, 3), None, (1, 2, 3), (1, 1), (2, 4), "tie"):
            if tie != (0, 3):
                self.assertEqual(refused(cut_rope, FOUR, (1, 3, (2,)), tie), ("NotUsable", "tie", -1), tie)
        self.assertEqual(refused(cut_rope, FOUR, (1, 3, (2,)), (0, 3)), ("NotUsable", "tie", -1))
        self.assertEqual(refused(cut_rope, FOUR, (1, 3, [2]), None), ("NotUsable", "rope", -1))
        self.assertEqual(refused(cut_rope, PAIR, (0, 1, ()), (2, 3)), ("NotUsable", "tie", -1))


def fields_of(pattern):
    """The fields of a pattern's line, by the words."""
    if type(pattern) is int:
        return [str(pattern)]
    found = [pattern[0]]
    for part in pattern[1:]:
        if pattern[0] in ("ropes", "above"):
            found.append(str(len(part)))
            found += [str(x) for low, high, front in part for x in (low, high, len(front), *front)]
        else:
            found += fields_of(part)
    return found


def numeral(field):
    """The number of a field, or None."""
    if not field or any(letter not in "0123456789" for letter in field) or (field[0] == "0" and field != "0"):
        return None
    return int(field)


def pattern_fault(book, text):
    """The first field that can't stand there, or how many there are if it ends too soon; or None."""
    fields = text.split(" ")
    due = ["pattern"]
    at = 0
    while due:
        kind = due.pop()
        if isinstance(kind, tuple):
            left, before = kind
            if left == 0:
                continue
            start, rope = at, []
            for place in range(3):
                if at == len(fields):
                    return at
                number = numeral(fields[at])
                allowed = (
                    range(book[0]) if place == 0
                    else [x for x in range(book[0]) if x > rope[0] and outright.tied(book, rope[0], x)] if place == 1
                    else range(len(outright.between(book, tuple(rope))) + 1))
                if number is None or number not in allowed:
                    return at
                rope.append(number)
                at += 1
            middle, front = outright.between(book, tuple(rope[:2])), []
            for _ in range(rope[2]):
                if at == len(fields):
                    return at
                if numeral(fields[at]) not in [x for x in middle if not front or x > front[-1]]:
                    return at
                front.append(int(fields[at]))
                at += 1
            rope = (*rope[:2], tuple(front))
            if before is not None and rope <= before:
                return start
            due.append((left - 1, rope))
            continue
        if at == len(fields):
            return at
        field = fields[at]
        if kind == "pattern" and field not in WORDS or kind != "pattern" and numeral(field) is None:
            return at
        at += 1
        if kind == "ropes":
            due.append((int(field), None))
        elif kind == "pattern":
            due += {"ropes": ["ropes"], "above": ["ropes"], "amid": ["many"], "ahead": ["many"], "behind": ["many"],
                    "not": ["pattern"], "both": ["pattern"] * 2, "either": ["pattern"] * 2}.get(field, [])
    return at if at < len(fields) else None


def texts_near(draw, line):
    """Texts with one thing changed."""
    fields = line.split(" ")
    yield line
    for k in range(len(fields)):
        more = draw.sample(WORDS, 2) + ["", "0", "1", "2", "3", "01", "00", "-1", "+1", "1.", "All", "9" * 60, "x\n", "1_1"]
        for word in draw.sample(more, 9):
            yield " ".join(fields[:k] + [word] + fields[k + 1:])
            yield " ".join(fields[:k] + [word] + fields[k:])
        yield " ".join(fields[:k])
        yield " ".join(fields[:k] + fields[k + 1:])
        yield " ".join(fields[:k] + fields[k:k + 1] + fields[k:])
        yield " ".join(fields[:k] + fields[k:k + 2][::-1] + fields[k + 2:])
    yield from (line + " ", " " + line, line + " all", line + " 0", "", " ", line + "\n", line.upper())


class Lines(unittest.TestCase):
    def test_examples(self):
        pattern = ("either", ("amid", 1), ("ropes", ((0, 1, ()), (0, 2, (1,)))))
        self.assertEqual(pattern_line(LIST, pattern), "either amid 1 ropes 2 0 1 0 0 2 1 1")
        self.assertEqual(refused(read_pattern, LIST, "both all amid 01"), ("InvalidText", 0, 3))
        self.assertEqual(refused(read_pattern, LIST, "both all"), ("InvalidText", 0, 2))
        self.assertEqual(pattern_line(LIST, ("ropes", ())), "ropes 0")
        self.assertEqual(pattern_line(LIST, ("ahead", 0)), "ahead 0")
        self.assertEqual(read_pattern(LIST, "amid " + "9" * 41), ("amid", 10 ** 41 - 1))

    def test_there_and_back(self):
        draw = random.Random(125)
        for book in JOINTED + (FIVE,):
            for pattern in each_word(draw, book):
                line = " ".join(fields_of(pattern))
                self.assertEqual(pattern_line(book, pattern), line)
                self.assertTrue(same(read_pattern(book, line), pattern))

    def test_faults(self):
        draw = random.Random(126)
        met = set()
        for book in BOOKS:
            for pattern in each_word(draw, book):
                for text in texts_near(draw, " ".join(fields_of(pattern))):
                    if sum(text.split(" ").count(word) for word in ("not", "both", "either")) > 8:
                        continue
                    fault, outcome = pattern_fault(book, text), refused(read_pattern, book, text)
                    met.add(None if fault is None else fault - len(text.split(" ")) >= 0)
                    if fault is None:
                        self.assertEqual((outcome[0], " ".join(fields_of(outcome[1]))), ("gives", text))
                    else:
                        self.assertEqual(outcome, ("InvalidText", 0, fault), (book, text))
        self.assertEqual(met, {None, True, False})

    def test_first_field(self):
        for text, field in (
            ("", 0), (" ", 0), ("all ", 1), ("all all", 1), ("al", 0), ("amid", 1), ("amid ", 1), ("amid -1", 1),
            ("not", 1), ("not ", 1), ("both all ", 2), ("both all none all", 3), ("ropes", 1), ("ropes 1", 2),
            ("ropes 1 0", 3), ("ropes 1 0 1", 4), ("ropes 1 0 1 1", 4), ("ropes 1 0 2 1", 5), ("ropes 1 0 2 1 2", 5),
            ("ropes 1 2 1 0", 3), ("ropes 1 3", 2), ("ropes 1 2", 3), ("ropes 1 0 0", 3), ("ropes 0 0", 2),
            ("ropes 2 0 2 0 0 1 0", 5), ("ropes 2 0 2 0 0 1 1", 7), ("ropes 2 0 2 0 0 1", 7), ("ropes 2 0 1 0 0 1 0", 5),
            ("ropes 2 0 2 1 1 0 2 0", 6), ("above 3 0 1 0 0 2 0", 8), ("ropes 1 0 1 0 0 2 0", 5), ("ropes 01", 1),
            ("ropes 1 00 1 0", 2), ("ropes 1 0 2 01 1", 4), ("ALL", 0), ("amid 1 ", 2), (" all", 0), ("all\n", 0),
            ("ropes " + "9" * 60 + " 0 1 0", 5),
        ):
            self.assertEqual(refused(read_pattern, LIST, text), ("InvalidText", 0, field), text)
        self.assertEqual(refused(read_pattern, FOUR, "ropes 1 0 3 2 2 1"), ("InvalidText", 0, 6))
        self.assertEqual(refused(read_pattern, FOUR, "ropes 1 0 3 2 2"), ("InvalidText", 0, 6))
        self.assertEqual(read_pattern(FOUR, "ropes 1 0 3 2 1 2"), ("ropes", ((0, 3, (1, 2)),)))
        self.assertEqual(refused(read_pattern, FOUR, "ropes 1 0 3 2 1 1"), ("InvalidText", 0, 6))
        self.assertEqual(refused(read_pattern, FIVE, "ropes 1 0 4 3 1 3 2"), ("InvalidText", 0, 7))
        self.assertEqual(refused(read_pattern, (3, ()), "ropes 1 0 1 0"), ("InvalidText", 0, 3))

    def test_no_strings(self):
        for value in (None, 1, True, ("all",), ["all"], ()):
            self.assertEqual(refused(read_pattern, LIST, value), ("NotUsable", "text", -1), value)


if __name__ == "__main__":
    unittest.main()
