"""[9], [10], [11] (G5) to (G7), [63] to [65], [72]: rungs, what is lacking on them, least and greatest sets on them."""
import random
import unittest
from itertools import combinations

import outright
from outright import FIVE, JOINTED, LIST, ODD, PAIR, RUNGS, changes, refused, same, told
from listbylist.faultchecker import lets_fault
from listbylist.growing import falls_with, least_on, most_without
from listbylist.oversides import over_ropes
from listbylist.rungs import is_rung, on_rung, rung_fault, rungs_of

FOUR = (4, ((0, 1, 2, 3),))
STANDS = (3, ((0, 1), (0, 2), (1, 2)))
SIDED = RUNGS[1:]
FEW = tuple(book for book in JOINTED if len(outright.ropes(book)) <= 8)
LARGE = (outright.band_book(10, 4), (10, ((0, 1, 2, 3, 4), (4, 5, 6, 7), (3, 4, 9), (8, 9))))
# More ropes than are gone through, and far more sortings.
HUGE = (outright.band_book(10, 6), (10, tuple((x, 5, 6, 7, 8, 9) for x in range(5))))
PLAIN = (
    ("all",), ("none",), ("amid", 2), ("ahead", 1), ("behind", 2), ("both", ("ahead", 1), ("behind", 1)),
    ("either", ("both", ("amid", 3), ("ahead", 0)), ("behind", 3)), ("either", ("none",), ("amid", 40)))


def check_fault(book, pattern, rung, value):
    """What lets_fault gives by its words."""
    many = 2 if rung == "even" else 1
    if type(value) is not tuple or len(value) != 2 or type(value[0]) is not tuple or len(value[0]) != many:
        return told("shape", -1)
    for k, rope in enumerate(value[0]):
        if not outright.is_rope(book, rope) or not outright.tells(book, pattern, rope):
            return told("given", k)
    if not outright.is_rope(book, value[1]) or outright.tells(book, pattern, value[1]):
        return told("missing", -1)
    return ("gives", value[1]) if value in outright.asks(book, rung) else told("choice", -1)


class Rungs(unittest.TestCase):
    def test_examples(self):
        self.assertEqual(rungs_of(LIST, ("ropes", ((0, 1, ()), (0, 2, (1,))))), ("even", "greatest"))
        self.assertEqual(rung_fault(LIST, ("ropes", ((0, 1, ()),)), "greatest"), (((0, 1, ()),), (0, 2, (1,))))

    def test_words(self):
        for rung in RUNGS:
            self.assertIs(is_rung(rung), True)
        for value in ODD + ("Even", "closed ", "evens", "most", ("even",), ["even"], RUNGS, b"even", 1.5):
            self.assertIs(is_rung(value), False, value)
        self.assertIs(is_rung(thing="least"), True)

    def test_by_all_choices(self):
        draw = random.Random(201)
        met = set()
        for book in JOINTED + (FIVE,):
            for pattern in outright.rung_patterns(draw, book):
                found = outright.told_ropes(book, pattern)
                wanted = tuple(rung for rung in RUNGS if outright.on_rung(book, found, rung))
                met.add(wanted)
                self.assertTrue(same(rungs_of(book, pattern), wanted), (book, pattern))
                for rung in RUNGS:
                    self.assertIs(on_rung(book, pattern, rung), rung in wanted)
                    self.hold_fault(book, pattern, rung, rung in wanted)
        self.assertEqual(met, {(), ("even",), ("even", "greatest"), ("even", "least"), RUNGS})

    def hold_fault(self, book, pattern, rung, stands):
        fault = rung_fault(book, pattern, rung)
        self.assertIs(fault is None, stands)
        if fault is not None:
            self.assertEqual(check_fault(book, pattern, rung, fault), ("gives", fault[1]))
            self.assertTrue(same(lets_fault(book, pattern, rung, fault), fault[1]))
            self.assertTrue(same(fault, (tuple(fault[0]), fault[1])))

    def test_plain(self):
        """(G6): plain patterns are closed; "above" is, too. Also where there are too many ropes to go through."""
        for book in HUGE + LARGE + (FIVE, (1, ()), (10, ())):
            for pattern in PLAIN:
                self.assertEqual(rungs_of(book, pattern), RUNGS)
                for rung in RUNGS:
                    self.assertIs(on_rung(book, pattern, rung), True)
                    self.assertIsNone(rung_fault(book, pattern, rung))
        draw = random.Random(202)
        for book in JOINTED + LARGE:
            ropes = outright.ropes(book)
            some = tuple(sorted(draw.sample(ropes, min(2, len(ropes)))))
            self.assertEqual(rungs_of(book, ("above", some)), RUNGS)

    def test_closed(self):
        """(G6): on "closed" exactly if on both; exactly if with each rope all are told of which it is a piece."""
        draw = random.Random(203)
        for book in JOINTED + (FIVE,):
            for pattern in outright.rung_patterns(draw, book):
                found = outright.told_ropes(book, pattern)
                above = all(
                    other in found for other in outright.ropes(book)
                    if any(one in found for one in outright.pieces(book, other)))
                self.assertIs(on_rung(book, pattern, "closed"), above)
                rungs = rungs_of(book, pattern)
                self.assertIs("closed" in rungs, "greatest" in rungs and "least" in rungs)

    def test_more_things(self):
        draw = random.Random(204)
        for book in LARGE:
            for pattern in outright.rung_patterns(draw, book, 1):
                found = outright.told_ropes(book, pattern)
                for rung in RUNGS:
                    self.hold_fault(book, pattern, rung, outright.on_rung(book, found, rung))

    def test_wrong_inputs(self):
        for call in (on_rung, rung_fault, lambda *given: lets_fault(*given, None)):
            for pattern in ODD + (("all", 1), ["all"], ("amid", True), ("ropes", ((0, 3, ()),)), ("above", ((False, 1, ()),))):
                self.assertEqual(refused(call, LIST, pattern, "most"), ("NotUsable", "pattern", -1), pattern)
            for rung in ODD + ("EVEN", "most", ("even",), ["even"]):
                self.assertEqual(refused(call, LIST, ("all",), rung), ("NotUsable", "rung", -1), rung)
        self.assertEqual(refused(rungs_of, LIST, ("all", ())), ("NotUsable", "pattern", -1))
        self.assertEqual(refused(lambda: on_rung(rung=1, pattern=1, book=LIST)), ("NotUsable", "pattern", -1))
        self.assertIs(on_rung(rung="least", pattern=("all",), book=LIST), True)


class Checker(unittest.TestCase):
    def test_papers_changed(self):
        draw = random.Random(205)
        met = set()
        for book in (LIST, PAIR, FOUR, STANDS, (5, ((0, 1, 2, 3), (1, 2, 3, 4)))):
            ropes = outright.ropes(book)
            for pattern in outright.rung_patterns(draw, book):
                for rung in RUNGS:
                    paper = rung_fault(book, pattern, rung)
                    if paper is None:
                        paper = draw.choice(outright.asks(book, rung))
                    values = list(changes(paper)) + list(outright.rebooled(paper))
                    values = draw.sample(values, min(14, len(values))) + [
                        paper, (paper[0][::-1], paper[1]), (paper[0] * 2, paper[1]), (paper[1:], paper[0][0]),
                        (paper[0], draw.choice(ropes)), ((draw.choice(ropes),) * len(paper[0]), paper[1]),
                        (tuple(draw.choice(ropes) for _ in paper[0]), draw.choice(ropes)), paper[0] + paper[1:]]
                    for value in values:
                        wanted = check_fault(book, pattern, rung, value)
                        met.add(wanted[1:] if wanted[0] == "InvalidPaper" else "gives")
                        self.assertTrue(same(refused(lets_fault, book, pattern, rung, value), wanted), (book, pattern, rung, value))
        self.assertEqual(met, {
            ("shape", -1), ("given", 0), ("given", 1), ("missing", -1), ("choice", -1), "gives"})

    def test_first_that_applies(self):
        low, high, front, back = (0, 1, ()), (1, 2, ()), (0, 2, (1,)), (0, 2, ())
        both = ("ropes", (low, high))
        for rung, value, word, at in (
            ("even", None, "shape", -1), ("even", ((low, high), front, back), "shape", -1), ("even", ((low,), front), "shape", -1),
            ("even", ([low, high], front), "shape", -1), ("least", ((low, high), front), "shape", -1), ("least", ((), front), "shape", -1),
            ("least", [(low,), back], "shape", -1), ("closed", (low, back), "shape", -1), ("even", ((front, back), None), "given", 0),
            ("even", ((low, back), None), "given", 1), ("even", ((low, (1, 2, [])), None), "given", 1),
            ("even", (((0, True, ()), high), None), "given", 0), ("even", ((low, high), None), "missing", -1),
            ("even", ((low, high), low), "missing", -1), ("even", ((high, low), front), "choice", -1),
            ("even", ((low, low), front), "choice", -1), ("greatest", ((low,), back), "choice", -1),
            ("greatest", ((high,), front), "choice", -1), ("least", ((low,), front), "choice", -1),
            ("least", ((high,), back), "choice", -1), ("least", ((back,), back), "given", 0), ("closed", ((high,), low), "missing", -1),
        ):
            self.assertEqual(refused(lets_fault, LIST, both, rung, value), told(word, at), (rung, value))
        for rung, given, missing in (
            ("even", (low, high), front), ("even", (low, high), back), ("greatest", (low,), front), ("greatest", (high,), back),
            ("least", (low,), back), ("least", (high,), front), ("closed", (low,), front), ("closed", (low,), back),
            ("closed", (high,), front), ("closed", (high,), back),
        ):
            self.assertEqual(lets_fault(LIST, both, rung, (given, missing)), missing)


class Overs(unittest.TestCase):
    def test_examples(self):
        self.assertEqual(over_ropes(PAIR, (1, 2, ()), "greatest"), ((0, 2, ()), (1, 3, (2,))))

    def test_by_all_choices(self):
        for book in JOINTED + (FIVE,) + LARGE:
            for rung in SIDED:
                for rope in outright.ropes(book):
                    wanted = tuple(sorted(missing for given, missing in outright.asks(book, rung) if given == (rope,)))
                    self.assertTrue(same(over_ropes(book, rope, rung), wanted))

    def test_wrong_inputs(self):
        for rope in ODD + ((0, 3, ()), (0, 2, [1]), (False, 1, ()), (0, 2, (True,)), (1, 0, ())):
            self.assertEqual(refused(over_ropes, LIST, rope, "even"), ("NotUsable", "rope", -1), rope)
        for rung in ODD + ("even", "most"):
            self.assertEqual(refused(over_ropes, LIST, (0, 1, ()), rung), ("NotUsable", "rung", -1), rung)


class Growing(unittest.TestCase):
    def test_examples(self):
        every = ((0, 1, ()), (0, 2, ()), (0, 2, (1,)), (1, 2, ()))
        self.assertEqual(least_on(LIST, ((0, 1, ()), (1, 2, ())), "even"), every)
        self.assertEqual(most_without(LIST, ((0, 2, ()),), "greatest"), ((0, 1, ()), (0, 2, (1,))))
        self.assertEqual(falls_with(LIST, ((0, 1, ()), (1, 2, ())), "even"), ((0, 2, ()), (0, 2, (1,))))
        for rung in RUNGS:
            self.assertEqual((least_on(LIST, (), rung), falls_with(LIST, (), rung)), ((), ()))
        for rung in SIDED:
            self.assertEqual(most_without(LIST, (), rung), every)
            self.assertEqual(most_without((3, ()), (), rung), ())

    def test_through_all_sets(self):
        """(G7): the least one with them, the greatest one without them."""
        draw = random.Random(206)
        for book in FEW + (FOUR,):
            ropes = outright.ropes(book)
            for rung in RUNGS:
                sets = [set(lot) for lot in outright.lots(ropes) if outright.on_rung(book, lot, rung)]
                for many in (0, 1, 1, 2, 2, 3, len(ropes)):
                    some = tuple(sorted(draw.sample(ropes, min(many, len(ropes)))))
                    holding = [one for one in sets if one >= set(some)]
                    (least,) = [one for one in holding if all(one <= other for other in holding)]
                    self.assertTrue(same(least_on(book, some, rung), tuple(sorted(least))))
                    self.assertTrue(same(falls_with(book, some, rung), tuple(sorted(least - set(some)))))
                    if rung != "even":
                        lacking = [one for one in sets if not one & set(some)]
                        (most,) = [one for one in lacking if all(one >= other for other in lacking)]
                        self.assertTrue(same(most_without(book, some, rung), tuple(sorted(most))))

    def test_by_adding(self):
        draw = random.Random(207)
        for book in JOINTED + (FIVE,) + LARGE:
            ropes = outright.ropes(book)
            for rung in RUNGS:
                for many in (1, 2, 4):
                    some = tuple(sorted(draw.sample(ropes, min(many, len(ropes)))))
                    least = outright.grown_told(book, some, rung)
                    self.assertTrue(same(least_on(book, some, rung), least))
                    self.assertEqual(falls_with(book, some, rung), tuple(x for x in least if x not in some))
                    self.assertIs(on_rung(book, ("ropes", least), rung), True)
                    if rung != "even":
                        # [72]: none of these is in least_on of it alone.
                        wanted = tuple(
                            rope for rope in ropes if not set(outright.grown_told(book, (rope,), rung)) & set(some))
                        self.assertTrue(same(most_without(book, some, rung), wanted))

    def test_what_is_in_the_least(self):
        """[72]: by pieces, and by rows of things for "even"."""
        draw = random.Random(208)
        for book in JOINTED + (FIVE,) + LARGE[:1]:
            ropes = outright.ropes(book)
            for _ in range(4):
                some = tuple(sorted(draw.sample(ropes, min(draw.randrange(1, 4), len(ropes)))))
                for rung in RUNGS:
                    wanted = tuple(rope for rope in ropes if is_forced(book, rope, some, rung))
                    self.assertEqual(least_on(book, some, rung), wanted, (book, some, rung))

    def test_exchanged(self):
        """[72]: ahead and behind exchanged, "greatest" becomes "least", "even" and "closed" stay."""
        draw = random.Random(209)
        for book in JOINTED + (FIVE,):
            for pattern in outright.rung_patterns(draw, book, 1):
                found = outright.told_ropes(book, pattern)
                other = ("ropes", tuple(sorted((*rope[:2], outright.behind(book, rope)) for rope in found)))
                swapped = {"greatest": "least", "least": "greatest"}
                wanted = {swapped.get(rung, rung) for rung in rungs_of(book, pattern)}
                self.assertEqual(set(rungs_of(book, other)), wanted)

    def test_wrong_inputs(self):
        one = ((0, 1, ()),)
        for call in (least_on, falls_with, most_without):
            for ropes in ODD + (one[0], list(one), ((0, 3, ()),), one * 2, ((1, 2, ()), (0, 1, ())), ((0, True, ()),)):
                if ropes != ():
                    self.assertEqual(refused(call, LIST, ropes, "most"), ("NotUsable", "ropes", -1), ropes)
            for rung in ODD + ("most", "Least"):
                self.assertEqual(refused(call, LIST, one, rung), ("NotUsable", "rung", -1), rung)
        self.assertEqual(refused(most_without, LIST, one, "even"), ("NotUsable", "rung", -1))
        self.assertEqual(refused(most_without, LIST, [], "even"), ("NotUsable", "ropes", -1))


def is_forced(book, rope, some, rung):
    """True if the rope is in least_on of some ropes, by the words of [72]."""
    pieces = outright.pieces(book, rope)
    low, high, front = rope
    back = outright.behind(book, rope)
    if rung == "closed":
        return any(one in pieces for one in some)
    if rung == "greatest":
        return any(one in pieces and one[0] in (low, *back) and one[1] in (high, *front) for one in some)
    if rung == "least":
        return any(one in pieces and one[0] in (low, *front) and one[1] in (high, *back) for one in some)
    steps = {one[:2] for one in pieces if one in some}
    inner = outright.between(book, (low, high))
    rows = [(low, *lot, high) for many in range(len(inner) + 1) for lot in combinations(inner, many)]
    return any(all(step in steps for step in zip(row, row[1:])) for row in rows)


if __name__ == "__main__":
    unittest.main()
