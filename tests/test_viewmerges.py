"""[10], [11] (G5), (G6), [66] to [68], [72]: ends and merges by patterns, and what is lacking for them to go along."""
import random
import unittest
from functools import lru_cache
from itertools import combinations, product

import outright
from outright import FIVE, JOINTED, LIST, ODD, PAIR, changes, refused, same, told
from listbylist.bookchanges import kept_to
from listbylist.mergefaults import lets_merge, merge_fault
from listbylist.merging import greatest_common, least_common
from listbylist.orderfaults import lets_order, order_fault
from listbylist.rungs import on_rung
from listbylist.sortturns import restricted
from listbylist.viewmerges import even_end, greatest_in, least_in

LAST = ((0, 1), (0, 2), (1, 2))
SHORT = ("ropes", ((0, 1, ()), (1, 2, ())))
ONE = ("ropes", ((0, 1, ()),))
FOUR = (4, ((0, 1, 2, 3),))
BOOKS = tuple(book for book in JOINTED if len(outright.sortings(book)) <= 36)
LARGE = (outright.band_book(10, 4), (10, ((0, 1, 2, 3, 4), (4, 5, 6, 7), (3, 4, 9), (8, 9))))
HUGE = (outright.band_book(10, 6), (10, tuple((x, 5, 6, 7, 8, 9) for x in range(5))))


def off_even(book, outcome, pattern):
    """True if the outcome is an OffRung with true fields of a pattern that is not even."""
    name, rung, given, missing = outcome
    return (
        (name, rung) == ("OffRung", "even") and (given, missing) in outright.asks(book, "even")
        and all(outright.tells(book, pattern, rope) for rope in given) and not outright.tells(book, pattern, missing))


@lru_cache(None)
def merge_of(book, rung, pair):
    return outright.greatest_beneath(book, pair) if rung == "greatest" else outright.least_above(book, pair)


def end_by_steps(book, sorting, pattern):
    """The end, where there are too many sortings to go through: by any steps."""
    while outright.falls_in(book, sorting, pattern):
        sorting = outright.flip(sorting, outright.falls_in(book, sorting, pattern)[-1])
    return sorting


def check_pair(book, value):
    if type(value) is not tuple or len(value) != 2:
        return told("shape", -1)
    for k, sorting in enumerate(value):
        if not outright.is_sorting(book, sorting):
            return told("sorting", k)
    return None


def check_order(book, pattern, value):
    """What lets_order gives by its words, by an even pattern."""
    wrong = check_pair(book, value)
    if wrong:
        return wrong
    if not set(value[0]) <= set(value[1]):
        return told("beneath", -1)
    ends = tuple(end_by_steps(book, one, pattern) for one in value)
    return told("ends", -1) if set(ends[0]) <= set(ends[1]) else ("gives", ends)


def check_merge(book, pattern, rung, value):
    wrong = check_pair(book, value)
    if wrong:
        return wrong
    common = greatest_common if rung == "greatest" else least_common
    ends = tuple(end_by_steps(book, one, pattern) for one in value)
    both = (end_by_steps(book, common(book, value), pattern), end_by_steps(book, common(book, ends), pattern))
    return told("same", -1) if both[0] == both[1] else ("gives", both)


class Orders(unittest.TestCase):
    def test_examples(self):
        self.assertEqual(order_fault(LIST, ONE), (((0, 1), (0, 2)), LAST))
        ends = (((0, 1), (0, 2)), ((0, 2), (1, 2)))
        self.assertEqual(lets_order(LIST, ONE, (((0, 1), (0, 2)), LAST)), ends)

    def test_by_all_pairs(self):
        draw = random.Random(221)
        met = set()
        for book in BOOKS + (FIVE,):
            found = outright.sortings(book)
            for pattern in outright.even_patterns(draw, book):
                ends = {one: outright.end_of(book, one, pattern) for one in found}
                goes = all(
                    set(ends[one]) <= set(ends[other]) for one, other in product(found, repeat=2)
                    if set(one) <= set(other)) if len(found) < 40 else outright.on_rung(
                        book, outright.told_ropes(book, pattern), "greatest")
                met.add(goes)
                self.hold_order(book, pattern, goes)
        self.assertEqual(met, {True, False})

    def hold_order(self, book, pattern, goes):
        self.assertIs(on_rung(book, pattern, "greatest"), goes)
        pair = order_fault(book, pattern)
        self.assertIs(pair is None, goes, (book, pattern))
        if pair is not None:
            outcome = check_order(book, pattern, pair)
            self.assertEqual(outcome[0], "gives", (book, pattern, pair))
            self.assertTrue(same(lets_order(book, pattern, pair), outcome[1]))

    def test_more_things(self):
        draw = random.Random(222)
        met = set()
        for book in LARGE:
            for pattern in outright.even_patterns(draw, book, 3):
                met.add(order_fault(book, pattern) is None)
                self.hold_order(book, pattern, outright.on_rung(book, outright.told_ropes(book, pattern), "greatest"))
        self.assertEqual(met, {True, False})

    def test_papers_changed(self):
        draw = random.Random(223)
        met = set()
        for book in (LIST, PAIR, FOUR, (5, ((0, 1, 2), (2, 3, 4)))):
            found = outright.sortings(book)
            for pattern in outright.even_patterns(draw, book):
                paper = order_fault(book, pattern) or (draw.choice(found), draw.choice(found))
                values = list(changes(paper)) + list(outright.rebooled(paper))
                values = draw.sample(values, min(20, len(values))) + [paper, paper[::-1], list(paper), ((), paper[1])]
                values += [(draw.choice(found), draw.choice(found)) for _ in range(4)]
                for value in values:
                    wanted = check_order(book, pattern, value)
                    met.add(wanted[1:] if wanted[0] == "InvalidPaper" else "gives")
                    self.assertTrue(same(refused(lets_order, book, pattern, value), wanted), (book, pattern, value))
        self.assertEqual(met, {("shape", -1), ("sorting", 0), ("sorting", 1), ("beneath", -1), ("ends", -1), "gives"})


class Merges(unittest.TestCase):
    def test_examples(self):
        pair = (((0, 1),), ((1, 2),))
        self.assertEqual(lets_merge(LIST, ONE, "least", pair), (((0, 2), (1, 2)), ((1, 2),)))

    def test_by_all_pairs(self):
        """(G6): the end of a merge is that of the merge of the ends exactly if the pattern is on the rung."""
        draw = random.Random(224)
        met = set()
        for book in BOOKS + (FIVE,):
            found = outright.sortings(book)
            for pattern in outright.even_patterns(draw, book, 1):
                for rung in ("greatest", "least"):
                    goes = outright.on_rung(book, outright.told_ropes(book, pattern), rung)
                    if len(found) < 25:
                        ends = {one: outright.end_of(book, one, pattern) for one in found}
                        self.assertIs(goes, all(
                            ends[merge_of(book, rung, pair)] == ends[merge_of(book, rung, (ends[pair[0]], ends[pair[1]]))]
                            for pair in combinations(found, 2)))
                    met.add((rung, goes))
                    self.hold_merge(book, pattern, rung, goes)
        self.assertEqual(met, set(product(("greatest", "least"), (True, False))))

    def hold_merge(self, book, pattern, rung, goes):
        pair = merge_fault(book, pattern, rung)
        self.assertIs(pair is None, goes, (book, pattern, rung))
        if pair is not None:
            outcome = check_merge(book, pattern, rung, pair)
            self.assertEqual(outcome[0], "gives", (book, pattern, rung, pair))
            self.assertTrue(same(lets_merge(book, pattern, rung, pair), outcome[1]))

    def test_more_things(self):
        draw = random.Random(225)
        for book in LARGE:
            for pattern in outright.even_patterns(draw, book, 3):
                found = outright.told_ropes(book, pattern)
                for rung in ("greatest", "least"):
                    self.hold_merge(book, pattern, rung, outright.on_rung(book, found, rung))

    def test_papers_changed(self):
        draw = random.Random(226)
        met = set()
        for book in (LIST, PAIR, FOUR, (5, ((0, 1, 2), (2, 3, 4)))):
            found = outright.sortings(book)
            for pattern in outright.even_patterns(draw, book, 1):
                for rung in ("greatest", "least"):
                    paper = merge_fault(book, pattern, rung) or (draw.choice(found), draw.choice(found))
                    values = list(changes(paper)) + list(outright.rebooled(paper))
                    values = draw.sample(values, min(20, len(values))) + [paper, paper[::-1], list(paper), paper[:1]]
                    values += [(draw.choice(found), draw.choice(found)) for _ in range(4)]
                    for value in values:
                        wanted = check_merge(book, pattern, rung, value)
                        met.add(wanted[1:] if wanted[0] == "InvalidPaper" else "gives")
                        outcome = refused(lets_merge, book, pattern, rung, value)
                        self.assertTrue(same(outcome, wanted), (book, pattern, rung, value))
        self.assertEqual(met, {("shape", -1), ("sorting", 0), ("sorting", 1), ("same", -1), "gives"})


class Guarantee(unittest.TestCase):
    def test_greatest(self):
        """(G6), what is the same as "greatest"."""
        draw = random.Random(227)
        met = set()
        for book in [one for one in BOOKS if len(outright.sortings(one)) < 25]:
            found = outright.sortings(book)
            lots = [lot for lot in outright.lots(range(book[0])) if lot and is_filled(book, lot)]
            for pattern in outright.rung_patterns(draw, book, 1):
                goes = on_rung(book, pattern, "greatest")
                met.add(goes)
                every = outright.last_ones(book, pattern, False)
                ends = [one for one in found if not outright.falls_in(book, one, pattern)]
                self.assertIs(goes, all(
                    len(every[one]) == 1 and all(
                        set(end) <= set(every[one][0]) for end in ends if set(end) <= set(one)) for one in found))
                self.assertIs(goes, all(
                    restricted_end(book, end, lot, pattern) for end in ends for lot in lots))
                if outright.even(book, pattern):
                    self.assertIs(goes, all(
                        not outright.falls_in(book, merge_of(book, "least", pair), pattern)
                        for pair in combinations(ends, 2)))
        self.assertEqual(met, {True, False})

    def test_least(self):
        """(G6): on "least" exactly if even and tops of sortings beneath one another are so."""
        draw = random.Random(228)
        met = set()
        for book in [one for one in BOOKS if len(outright.sortings(one)) < 25]:
            found = outright.sortings(book)
            for pattern in outright.even_patterns(draw, book, 1):
                tops = {one: outright.top_of(book, one, pattern) for one in found}
                goes = all(
                    set(tops[one]) <= set(tops[other]) for one, other in product(found, repeat=2) if set(one) <= set(other))
                met.add(goes)
                self.assertIs(on_rung(book, pattern, "least"), goes)
        self.assertEqual(met, {True, False})


def is_filled(book, lot):
    """True if no thing between two tied things of the lot is missing."""
    return all(
        set(outright.between(book, tie)) <= set(lot) for tie in combinations(lot, 2) if outright.tied(book, *tie))


def restricted_end(book, end, lot, pattern):
    """True if the end, kept to the lot, is an end by those ropes told whose ends are both of the lot."""
    kept = tuple(
        (lot.index(low), lot.index(high), tuple(lot.index(x) for x in front))
        for low, high, front in outright.told_ropes(book, pattern) if low in lot and high in lot)
    return not outright.falls_in(kept_to(book, lot), restricted(book, end, lot), ("ropes", kept))


class Ends(unittest.TestCase):
    def test_examples(self):
        some = (((0, 1), (0, 2)), ((1, 2),))
        self.assertEqual(least_in(LIST, some, ("ahead", 1)), LAST)
        for pattern in (("all",), ("none",), ("ahead", 1), ONE):
            self.assertEqual(least_in(LIST, (), pattern), ())
            self.assertEqual(greatest_in(LIST, (), pattern), outright.end_of(LIST, LAST, pattern))

    def test_by_the_words(self):
        """Also [72]: on "greatest" and on "least" the ends need not be taken first."""
        draw = random.Random(229)
        for book in JOINTED:
            found = outright.sortings(book)
            for pattern in outright.even_patterns(draw, book, 1):
                ends = outright.last_ones(book, pattern, False)
                for one in draw.sample(found, min(len(found), 5)):
                    self.assertTrue(same(even_end(book, one, pattern), ends[one][0]))
                for some in outright.draw_tuples(draw, book, 3):
                    mine = tuple(ends[one][0] for one in some)
                    least, greatest = least_in(book, some, pattern), greatest_in(book, some, pattern)
                    self.assertTrue(same(least, ends[outright.least_above(book, mine)][0]))
                    self.assertTrue(same(greatest, ends[outright.greatest_beneath(book, mine)][0]))
                    if outright.on_rung(book, outright.told_ropes(book, pattern), "greatest"):
                        self.assertEqual(greatest, ends[outright.greatest_beneath(book, some)][0])
                    if outright.on_rung(book, outright.told_ropes(book, pattern), "least"):
                        self.assertEqual(least, ends[outright.least_above(book, some)][0])

    def test_huge(self):
        """With a plain pattern neither ropes nor sortings are gone through."""
        draw = random.Random(230)
        for book in HUGE:
            lines = [draw.sample(range(10), 10) for _ in range(3)]
            some = tuple(outright.by_line(book, line) for line in lines)
            for pattern in (("all",), ("none",), ("ahead", 1), ("both", ("ahead", 1), ("behind", 1)), ("amid", 2)):
                ends = tuple(even_end(book, one, pattern) for one in some)
                self.assertEqual(ends, tuple(end_by_steps(book, one, pattern) for one in some))
                self.assertEqual(least_in(book, some, pattern), even_end(book, least_common(book, some), pattern))
                self.assertEqual(greatest_in(book, some, pattern), even_end(book, greatest_common(book, some), pattern))
                self.assertIsNone(order_fault(book, pattern))
                self.assertIsNone(merge_fault(book, pattern, "least"))
                self.assertEqual(refused(lets_order, book, pattern, ((), some[0])), told("ends", -1))
                self.assertEqual(refused(lets_merge, book, pattern, "greatest", some[:2]), told("same", -1))


class Refusals(unittest.TestCase):
    def test_off_even(self):
        """Behind all parameters, ahead of the lists of checkers, with true fields."""
        draw = random.Random(231)
        for book in JOINTED + (FIVE,):
            for pattern in outright.rung_patterns(draw, book):
                if outright.even(book, pattern):
                    continue
                for call in (
                    lambda: order_fault(book, pattern), lambda: lets_order(book, pattern, None),
                    lambda: merge_fault(book, pattern, "least"), lambda: merge_fault(book, pattern, "greatest"),
                    lambda: lets_merge(book, pattern, "least", None), lambda: even_end(book, (), pattern),
                    lambda: least_in(book, (), pattern), lambda: greatest_in(book, (), pattern),
                ):
                    self.assertTrue(off_even(book, refused(call), pattern))
        for call in (merge_fault, lambda *given: lets_merge(*given, None)):
            for rung in ("even", "closed", None, "most", True, ["least"]):
                self.assertEqual(refused(call, LIST, SHORT, rung), ("NotUsable", "rung", -1))
        self.assertEqual(refused(even_end, LIST, None, SHORT), ("NotUsable", "sorting", -1))
        self.assertEqual(refused(least_in, LIST, None, SHORT), ("NotUsable", "sortings", -1))
        self.assertEqual(refused(least_in, LIST, (), ("amid", True)), ("NotUsable", "pattern", -1))

    def test_wrong_inputs(self):
        for value in ODD + (((0, 1), (1, 2)), [], ((False, 1),)):
            if not outright.is_sorting(LIST, value):
                self.assertEqual(refused(even_end, LIST, value, None), ("NotUsable", "sorting", -1), value)
                for call in (least_in, greatest_in):
                    self.assertEqual(refused(call, LIST, ((), value), None), ("NotUsable", "sortings", -1), value)
        for value in ODD:
            for call in (order_fault, lambda *given: lets_order(*given, None)):
                self.assertEqual(refused(call, LIST, value), ("NotUsable", "pattern", -1), value)
            for call in (merge_fault, lambda *given: lets_merge(*given, None)):
                self.assertEqual(refused(call, LIST, value, "even"), ("NotUsable", "pattern", -1), value)
        for value, word, at in (
            (None, "shape", -1), ([(), ()], "shape", -1), (((),), "shape", -1), ((None, None), "sorting", 0),
            (((), LAST[:1] + LAST[2:]), "sorting", 1), ((LAST, ()), "beneath", -1), (((), LAST), "ends", -1),
        ):
            self.assertEqual(refused(lets_order, LIST, ONE, value), told(word, at), value)
        self.assertEqual(refused(lets_merge, LIST, ONE, "least", ((), LAST)), told("same", -1))


if __name__ == "__main__":
    unittest.main()
