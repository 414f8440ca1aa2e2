"""[8], [11] (G4), [47] to [50], [52]: reasons, crossings, whose they are, what makes a sorting, rise reasons."""
import random
import unittest
from itertools import combinations, product

import outright
from outright import FIVE, JOINTED, LIST, ODD, PAIR, changes, refused, same, told
from listbylist.bookchanges import kept_to, mirrored
from listbylist.crossings import crossed_pair, crossing_of, lets_crossing
from listbylist.joints import is_jointed
from listbylist.makings import is_reason_lot, makes, reason_sortings, reasons_apart
from listbylist.merging import greatest_common, least_common
from listbylist.origins import merged_reasons, who_shows
from listbylist.reasons import reasons_of, sorting_by_reasons
from listbylist.rising import rise_reasons, sorting_by_rises
from listbylist.showings import greatest_rising, least_showing
from listbylist.sortturns import mirrored_sorting, restricted, turned_over

LAST = ((0, 1), (0, 2), (1, 2))
GROWN = random.Random(91)


def large_books():
    """Well jointed books of ten things, most of them with far too many sortings to go through."""
    yield outright.band_book(10, 6)
    yield outright.band_book(10, 4)
    yield (10, ((0, 1, 2, 3, 4, 5), (4, 5, 6, 7, 8, 9)))
    many = 0
    while many < 8:
        book = outright.grown_book(GROWN, 10, 4)
        if is_jointed(book) and len(book[1]) < 9:
            many += 1
            yield book


LARGE = tuple(large_books())


def drawn_sorting(draw, book):
    line = list(range(book[0]))
    draw.shuffle(line)
    return outright.by_line(book, line)


def cross(book, rope, other):
    return bool(outright.crossings(book, rope, other))


def uncrossed_lots(book):
    """All ascending tuples of ropes of which no two cross."""
    ropes = outright.ropes(book)
    pairs = {pair for pair in combinations(ropes, 2) if cross(book, *pair)}
    lots = [()]
    for rope in ropes:
        lots += [lot + (rope,) for lot in lots if not any((one, rope) in pairs for one in lot)]
    return lots


class Reasons(unittest.TestCase):
    def test_examples(self):
        self.assertEqual(reasons_of(PAIR, ((1, 2), (1, 3))), ((1, 3, (2,)),))
        self.assertEqual(reasons_of(LIST, ((0, 2), (1, 2))), ((0, 2, ()),))
        self.assertEqual(sorting_by_reasons(LIST, ((0, 1, ()), (1, 2, ()))), LAST)
        outcome = refused(sorting_by_reasons, LIST, ((0, 1, ()), (0, 2, ())))
        self.assertEqual(outcome, ("Crossed", (0, 1, ()), (0, 2, ())))
        self.assertEqual(rise_reasons(LIST, ((0, 1),)), ((0, 2, (1,)),))

    def test_by_exchanges(self):
        for book in JOINTED + (FIVE,):
            for sorting in outright.sortings(book):
                self.assertTrue(same(reasons_of(book, sorting), outright.reasons(book, sorting)))
                self.assertTrue(same(rise_reasons(book, sorting), outright.rise_reasons(book, sorting)))
                self.assertEqual(len(outright.reasons(book, sorting)), len(outright.falls(book, sorting)))
                self.assertIs(reasons_of(book, sorting) == (), sorting == ())
                self.assertIs(rise_reasons(book, sorting) == (), sorting == outright.ties(book))

    def test_there_and_back(self):
        for book in JOINTED + (FIVE,):
            for sorting in outright.sortings(book):
                self.assertTrue(same(sorting_by_reasons(book, reasons_of(book, sorting)), sorting))
                self.assertTrue(same(sorting_by_rises(book, rise_reasons(book, sorting)), sorting))

    def test_exactly_if_uncrossed(self):
        """(G4): ropes are the reasons, and the rise reasons, of one sorting exactly if no two of them cross."""
        for book in JOINTED + (FIVE,):
            found = outright.sortings(book)
            lots = uncrossed_lots(book)
            self.assertEqual(sorted(outright.reasons(book, one) for one in found), sorted(lots))
            self.assertEqual(sorted(outright.rise_reasons(book, one) for one in found), sorted(lots))
            for lot in lots:
                by, rising = sorting_by_reasons(book, lot), sorting_by_rises(book, lot)
                self.assertEqual(outright.reasons(book, by), lot)
                self.assertEqual(outright.rise_reasons(book, rising), lot)
                self.assertIsNone(crossed_pair(book, lot))

    def test_crossed(self):
        draw = random.Random(92)
        for book in JOINTED + (FIVE,):
            ropes = outright.ropes(book)
            for _ in range(40):
                some = tuple(sorted(draw.sample(ropes, min(len(ropes), draw.choice((2, 2, 3, 4, 6))))))
                pairs = [pair for pair in combinations(some, 2) if cross(book, *pair)]
                wanted = min(pairs) if pairs else None
                self.assertTrue(same(crossed_pair(book, some), wanted))
                if pairs:
                    self.assertTrue(same(refused(sorting_by_reasons, book, some), ("Crossed", *wanted)))
                    self.assertTrue(same(refused(sorting_by_rises, book, some), ("Crossed", *wanted)))

    def test_more_things(self):
        draw = random.Random(93)
        for book in LARGE:
            for _ in range(12):
                sorting = drawn_sorting(draw, book)
                ropes, rising = reasons_of(book, sorting), rise_reasons(book, sorting)
                self.assertEqual((ropes, rising), (outright.reasons(book, sorting), outright.rise_reasons(book, sorting)))
                self.assertEqual(sorting_by_reasons(book, ropes), sorting)
                self.assertEqual(sorting_by_rises(book, rising), sorting)
                self.assertEqual(least_common(book, tuple(least_showing(book, rope) for rope in ropes)[:8]),
                                 sorting_by_reasons(book, ropes[:8]))

    def test_less_ropes(self):
        """[52]: some of several uncrossed ropes give a sorting beneath that of all."""
        draw = random.Random(94)
        for book in JOINTED + LARGE:
            for _ in range(12):
                sorting = drawn_sorting(draw, book)
                ropes = reasons_of(book, sorting)
                some = tuple(rope for rope in ropes if draw.random() < 0.6)
                self.assertLessEqual(set(sorting_by_reasons(book, some)), set(sorting))
                over = sorting_by_rises(book, tuple(rope for rope in rise_reasons(book, sorting) if draw.random() < 0.6))
                self.assertGreaterEqual(set(over), set(sorting))

    def test_list_by_list(self):
        """[52]: a rope is a reason exactly if it is one in each full list with its ends."""
        for book in JOINTED:
            lists = outright.full(book)
            for sorting in outright.sortings(book)[::3]:
                ropes = reasons_of(book, sorting)
                kept = [reasons_of(kept_to(book, lot), restricted(book, sorting, lot)) for lot in lists]
                for low, high, front in outright.ropes(book):
                    holding = [k for k, lot in enumerate(lists) if low in lot and high in lot]
                    anew = [tuple(tuple(lists[k].index(x) for x in part) for part in ((low, high), front)) for k in holding]
                    each = all((*tie, lot) in kept[k] for k, (tie, lot) in zip(holding, anew))
                    self.assertIs((low, high, front) in ropes, each)

    def test_turned_over_and_mirrored(self):
        """[52]: turned over, reasons become rise reasons; mirrored, they stay; ahead and behind are exchanged."""
        for book in JOINTED + (FIVE,):
            last = book[0] - 1
            for sorting in outright.sortings(book)[::2]:
                ropes = reasons_of(book, sorting)
                over = tuple((*rope[:2], outright.behind(book, rope)) for rope in ropes)
                self.assertEqual(rise_reasons(book, turned_over(book, sorting)), over)
                back = sorted(
                    (last - high, last - low, tuple(sorted(last - x for x in lot))) for low, high, lot in over)
                self.assertEqual(reasons_of(mirrored(book), mirrored_sorting(book, sorting)), tuple(back))


class Crossings(unittest.TestCase):
    def test_examples(self):
        self.assertEqual(crossing_of(LIST, (0, 1, ()), (0, 2, ())), ("against", 1, 0))
        self.assertEqual(crossing_of(LIST, (0, 1, ()), (0, 2, (1,))), ("amid", 2))
        self.assertEqual(crossed_pair(LIST, outright_ropes(LIST)), ((0, 1, ()), (0, 2, ())))
        outcome = refused(lets_crossing, LIST, (0, 1, ()), (0, 2, (1,)), ("against", 1, 0))
        self.assertEqual(outcome, told("against", -1))
        self.assertIsNone(crossing_of(LIST, (0, 1, ()), (1, 2, ())))
        self.assertIsNone(crossed_pair(LIST, ()))

    def test_over_all_pairs(self):
        for book in JOINTED + (FIVE,):
            for rope, other in product(outright.ropes(book), repeat=2):
                found = outright.crossings(book, rope, other)
                paper = crossing_of(book, rope, other)
                self.assertIs(paper is None, not found)
                if paper is not None:
                    self.assertIn(paper, found)
                    self.assertTrue(same(refused(lets_crossing, book, rope, other, paper), ("gives", paper[0])))
                if rope == other:
                    self.assertIsNone(paper)
                elif rope[:2] == other[:2]:
                    self.assertIsNotNone(paper)

    def check(self, book, rope, other, value):
        """What lets_crossing gives by its words."""
        shape = [("against", 3), ("amid", 2)]
        if type(value) is not tuple or not value or type(value[0]) is not str or (value[0], len(value)) not in shape:
            return told("shape", -1)
        if not all(outright.is_below(book[0], x) for x in value[1:]):
            return told(value[0], -1)
        held = value in outright.crossings(book, rope, other)
        return ("gives", value[0]) if held else told(value[0], -1)

    def test_papers_changed(self):
        met = set()
        for book in (LIST, PAIR, (4, ((0, 1, 2, 3),)), (5, ((0, 1, 2, 3), (1, 2, 3, 4)))):
            ropes = outright.ropes(book)
            for rope, other in list(product(ropes, ropes))[::1 + len(ropes) // 5]:
                paper = crossing_of(book, rope, other) or ("amid", 0)
                values = list(changes(paper)) + list(outright.rebooled(paper)) + list(ODD)[::4]
                values += [("amid", x) for x in range(book[0])]
                values += [("against", x, y) for x in range(book[0]) for y in range(book[0])]
                for value in values:
                    wanted = self.check(book, rope, other, value)
                    met.add(wanted[1:])
                    self.assertEqual(refused(lets_crossing, book, rope, other, value), wanted, (book, value))
        self.assertEqual(met, {("shape", -1), ("against", -1), ("amid", -1), ("against",), ("amid",)})

    def test_first_that_applies(self):
        rope, other = (0, 1, ()), (0, 2, (1,))
        for value, word in (
            (None, "shape"), ("amid", "shape"), (["amid", 2], "shape"), (("amid", 2, 2), "shape"), (("amid",), "shape"),
            (("against", 1), "shape"), (("against", 1, 0, 0), "shape"), ((None, 2), "shape"), ((("amid",), 2), "shape"),
            (("amid", 1), "amid"), (("amid", 3), "amid"), (("amid", None), "amid"), (("amid", True), "amid"),
            (("against", 0, 1), "against"), (("against", 2, 0), "against"), (("against", None, []), "against"),
        ):
            self.assertEqual(refused(lets_crossing, LIST, rope, other, value), told(word, -1), value)
        self.assertEqual(lets_crossing(LIST, rope, other, ("amid", 2)), "amid")
        self.assertEqual(lets_crossing(LIST, other, rope, ("amid", 2)), "amid")
        self.assertEqual(refused(lets_crossing, LIST, (0, 1, ()), (0, 2, ()), ("against", True, False)),
                         told("against", -1))


def outright_ropes(book):
    return tuple(outright.ropes(book))


class Origins(unittest.TestCase):
    def test_examples(self):
        self.assertEqual(who_shows(LIST, (((0, 1),), (), ((0, 1), (0, 2))), (0, 1, ())), (0, 2))
        wanted = (((0, 1, ()), (0,)), ((1, 2, ()), (1,)))
        self.assertEqual(merged_reasons(LIST, (((0, 1),), ((0, 2), (1, 2)))), wanted)
        self.assertEqual(who_shows(LIST, (), (0, 1, ())), ())
        self.assertEqual(merged_reasons(LIST, ()), ())

    def test_by_the_words(self):
        """Also (G4): of sortings whose least common one it is, some one shows each reason."""
        draw = random.Random(95)
        for book in JOINTED + (FIVE,):
            for some in outright.draw_tuples(draw, book, 10):
                for rope in outright.ropes(book):
                    wanted = tuple(k for k, one in enumerate(some) if outright.shows(book, one, rope))
                    self.assertTrue(same(who_shows(book, some, rope), wanted))
                merged = merged_reasons(book, some)
                least = outright.least_above(book, some)
                self.assertEqual(tuple(rope for rope, _ in merged), outright.reasons(book, least))
                for rope, places in merged:
                    self.assertTrue(same(places, who_shows(book, some, rope)))
                    self.assertNotEqual(places, ())
                self.assertTrue(same(merged, tuple(merged)))

    def test_more_things(self):
        draw = random.Random(96)
        for book in LARGE:
            some = tuple(drawn_sorting(draw, book) for _ in range(4))
            merged = merged_reasons(book, some)
            self.assertEqual(tuple(rope for rope, _ in merged), outright.reasons(book, least_common(book, some)))
            for rope, places in merged:
                self.assertEqual(places, tuple(k for k, one in enumerate(some) if outright.shows(book, one, rope)))
                self.assertNotEqual(places, ())


class Makings(unittest.TestCase):
    def test_examples(self):
        self.assertEqual(reason_sortings(LIST, LAST), (((0, 1),), ((1, 2),)))
        self.assertEqual(reasons_apart(LIST, ((0, 1),), LAST), ((), ((1, 2, ()),)))
        three = ((0, 1), (0, 2), (0, 3))
        self.assertEqual(reasons_of((4, ((0, 2), (0, 1, 3))), three), ((0, 2, ()), (0, 3, (1,))))
        self.assertEqual(reason_sortings((4, ((0, 2), (0, 1, 3))), three), (((0, 1), (0, 3)), ((0, 2),)))
        self.assertIs(makes(LIST, LAST, (((0, 1),), ((1, 2),))), True)
        self.assertIs(makes(LIST, LAST, (((0, 1),),)), False)
        self.assertIs(makes(LIST, (), ()), True)
        self.assertIs(makes(LIST, LAST, ()), False)

    def test_makes(self):
        draw = random.Random(97)
        for book in JOINTED:
            found = outright.sortings(book)
            for some in outright.draw_tuples(draw, book, 8):
                least = outright.least_above(book, some)
                for sorting in draw.sample(found, min(len(found), 5)) + [least]:
                    self.assertIs(makes(book, sorting, some), sorting == least)

    def test_reason_sortings(self):
        for book in JOINTED + (FIVE,):
            for sorting in outright.sortings(book):
                lot = reason_sortings(book, sorting)
                wanted = sorted(
                    min((one for one in outright.sortings(book) if outright.shows(book, one, rope)), key=len)
                    for rope in outright.reasons(book, sorting)[:3])
                self.assertLessEqual(set(wanted), set(lot))
                self.assertTrue(same(lot, tuple(sorted(least_showing(book, rope) for rope in reasons_of(book, sorting)))))
                self.assertIs(makes(book, sorting, lot), True)

    def test_the_only_ones(self):
        """(G4), [52]: whatever makes a sorting, each of its reason_sortings is beneath one of that."""
        draw = random.Random(98)
        for book in JOINTED:
            for some in outright.draw_tuples(draw, book, 8):
                sorting = outright.least_above(book, some)
                lot = reason_sortings(book, sorting)
                for one in lot:
                    self.assertTrue(any(set(one) <= set(other) for other in some))
                    self.assertFalse(any(set(one) < set(other) for other in lot))
                    left = tuple(other for other in lot if other != one)
                    self.assertIs(makes(book, sorting, left), False)

    def test_is_reason_lot(self):
        met = set()
        for book in (LIST, PAIR, (4, ((0, 1, 2, 3),)), (3, ())):
            found = outright.sortings(book)
            for sorting in found[::1 + len(found) // 8]:
                lot = reason_sortings(book, sorting)
                values = list(changes(lot)) + list(outright.rebooled(lot)) + list(ODD) + [lot, list(lot), lot[::-1], ()]
                for value in values:
                    wanted = same(value, lot)
                    met.add(wanted)
                    self.assertIs(is_reason_lot(book, sorting, value), wanted, (book, sorting, value))
        self.assertEqual(met, {True, False})
        self.assertIs(is_reason_lot(LIST, LAST, (((False, True),), ((1, 2),))), False)

    def test_apart(self):
        draw = random.Random(99)
        for book in JOINTED:
            found = outright.sortings(book)
            for _ in range(25):
                one, other = draw.choice(found), draw.choice(found)
                mine, others = outright.reasons(book, one), outright.reasons(book, other)
                wanted = (tuple(sorted(set(mine) - set(others))), tuple(sorted(set(others) - set(mine))))
                self.assertTrue(same(reasons_apart(book, one, other), wanted))
            self.assertEqual(reasons_apart(book, found[-1], found[-1]), ((), ()))


class Rising(unittest.TestCase):
    def test_greatest_common(self):
        """[52]: a sorting is the greatest common one of the greatest_rising of its rise reasons; of whatever it is."""
        draw = random.Random(100)
        for book in JOINTED + (FIVE,):
            for sorting in outright.sortings(book)[::4]:
                some = tuple(greatest_rising(book, rope) for rope in rise_reasons(book, sorting))
                self.assertEqual(greatest_common(book, some), sorting)
            for some in outright.draw_tuples(draw, book, 6):
                sorting = outright.greatest_beneath(book, some)
                for rope in rise_reasons(book, sorting):
                    self.assertTrue(any(outright.rises_by(book, one, rope) for one in some))

    def test_edges(self):
        every = outright.ties(PAIR)
        self.assertEqual((rise_reasons(PAIR, every), sorting_by_rises(PAIR, ())), ((), every))
        self.assertEqual((reasons_of(PAIR, ()), sorting_by_reasons(PAIR, ())), ((), ()))
        for book in ((1, ()), (3, ())):
            self.assertEqual((reasons_of(book, ()), rise_reasons(book, ())), ((), ()))
            self.assertEqual((sorting_by_reasons(book, ()), sorting_by_rises(book, ())), ((), ()))


class Wrong(unittest.TestCase):
    def test_ropes(self):
        good = (0, 1, ())
        for value in (None, [good], (good, good), ((0, 2, ()), good), ((0, 2, [1]),), ((False, 1, ()),), good, ((0, 3, ()),),
                      ((0, 2, (True,)),), "ropes", ((0, 1),), (good, (0, 1, (2,)))):
            for call in (sorting_by_reasons, sorting_by_rises, crossed_pair):
                self.assertEqual(refused(call, LIST, value), ("NotUsable", "ropes", -1), (call, value))
                self.assertEqual(refused(lambda: call(ropes=value, book=LIST)), ("NotUsable", "ropes", -1))

    def test_pairs_of_ropes(self):
        good = (0, 1, ())
        for value in (None, (0, 1, []), (False, 1, ()), (0, True, ()), (0, 1), [0, 1, ()], (0, 1, (2,))):
            for call, more in ((crossing_of, ()), (lets_crossing, (None,))):
                self.assertEqual(refused(call, LIST, value, None, *more), ("NotUsable", "rope", -1), value)
                self.assertEqual(refused(call, LIST, good, value, *more), ("NotUsable", "other", -1), value)


if __name__ == "__main__":
    unittest.main()
