"""[11] (G9), [79], [80]: what is lost when ties or things are left out, and pairs that show it."""
import random
import unittest
from itertools import combinations

import outright
from outright import FIVE, JOINTED, LIST, ODD, PAIR, changes, refused, same, told
from listbylist.bookchanges import kept_to
from listbylist.cutpairs import cut_pair, lets_cut
from listbylist.joints import is_jointed
from listbylist.leaving import filled, hole_of, loss_of
from listbylist.merging import greatest_common, least_common
from listbylist.sortturns import carried, restricted
from test_listends import BAND, CHAIN, STAR, grown_jointed
from test_viewmerges import LARGE

BOOKS = tuple(book for book in JOINTED if len(outright.sortings(book)) <= 36)


def all_ties_book(size, ties):
    return (size, tuple(ties))


def losses(book, other):
    return [
        (low, inner, high) for low, inner, high in combinations(range(book[0]), 3)
        if outright.tied(other, low, high) and inner in outright.between(book, (low, high))
        and not (outright.tied(other, low, inner) and outright.tied(other, inner, high))]


def holes(book, lot):
    return [
        (low, inner, high) for low, inner, high in combinations(range(book[0]), 3)
        if low in lot and high in lot and inner not in lot and outright.tied(book, low, high)
        and inner in outright.between(book, (low, high))]


def check_cut(book, lot, value):
    """What lets_cut gives by its words."""
    if type(value) is not tuple or len(value) != 2:
        return told("shape", -1)
    for k, sorting in enumerate(value):
        if not outright.is_sorting(book, sorting):
            return told("sorting", k)
    whole = restricted(book, outright.least_above(book, value), lot)
    parts = outright.least_above(kept_to(book, lot), [restricted(book, one, lot) for one in value])
    return told("same", -1) if whole == parts else ("gives", (whole, parts))


class Losses(unittest.TestCase):
    def test_examples(self):
        self.assertEqual(loss_of(LIST, (3, ((0, 1), (0, 2)))), (0, 1, 2))

    def test_by_all_triples(self):
        draw = random.Random(301)
        met = set()
        for book in JOINTED + (FIVE,) + LARGE:
            ties = outright.ties(book)
            for _ in range(8):
                some = draw.sample(ties, draw.randrange(len(ties) + 1))
                for other in (all_ties_book(book[0], some), (book[0], book[1][1:]), book, kept_lists(draw, book)):
                    wanted = min(losses(book, other), default=None)
                    met.add(wanted is None)
                    self.assertTrue(same(loss_of(book, other), wanted), (book, other))
        self.assertEqual(met, {True, False})

    def test_merges(self):
        """(G9): carried over, least common ones stay so exactly if nothing is lost; the second book is well jointed then."""
        draw = random.Random(302)
        met = set()
        for book in BOOKS:
            ties, found = outright.ties(book), outright.sortings(book)
            if len(found) > 24:
                continue
            for _ in range(6):
                other = all_ties_book(book[0], draw.sample(ties, draw.randrange(len(ties) + 1)))
                goes = all(taken(other, outright.least_above(book, pair)) == outright.least_above(
                    other, [taken(other, one) for one in pair]) for pair in combinations(found, 2))
                met.add(goes)
                self.assertIs(loss_of(book, other) is None, goes)
                if goes:
                    self.assertIs(is_jointed(other), True)
                    for one in found:
                        self.assertEqual(carried(book, one, other), taken(other, one))
        self.assertEqual(met, {True, False})

    def test_wrong_inputs(self):
        for other in ODD + (
            (4, ()), (2, ()), (3, ((0, 1, 2),) * 2 + ((0, True),)), [3, ()], (3, []), (3, ((2, 1),)), PAIR, (True, ()), (3, ((0, 3),)),
        ):
            self.assertEqual(refused(loss_of, LIST, other), ("NotUsable", "other", -1), other)
        for other in ((4, ((0, 3),)), (4, ((0, 1, 2), (2, 3), (0, 3))), (4, ((0, 1, 2, 3),)), (5, ()), (40, ((0, 39),))):
            self.assertEqual(refused(loss_of, PAIR, other), ("NotUsable", "other", -1), other)
        # Lists of other are not those of the book, just its ties.
        self.assertEqual(loss_of(LIST, (3, ((0, 1), (0, 2), (1, 2)))), None)
        self.assertEqual(loss_of(other=(3, ()), book=LIST), None)


def kept_lists(draw, book):
    """A book of parts of the lists."""
    lists = [tuple(sorted(draw.sample(one, draw.randrange(1, len(one) + 1)))) for one in book[1]]
    return (book[0], tuple(one for one in lists if len(one) > 1))


def taken(other, sorting):
    """The directions of the ties of other alone."""
    return tuple(tie for tie in sorting if outright.tied(other, *tie))


class Holes(unittest.TestCase):
    def test_by_all_triples_and_lots(self):
        met = set()
        for book in JOINTED + (FIVE,):
            lots = list(outright.lots(range(book[0])))
            without = [lot for lot in lots if not holes(book, lot)]
            for lot in lots:
                wanted = min(holes(book, lot), default=None)
                met.add(wanted is None)
                self.assertTrue(same(hole_of(book, lot), wanted))
                holding = [one for one in without if set(lot) <= set(one)]
                (least,) = [one for one in holding if all(set(one) <= set(other) for other in holding)]
                self.assertTrue(same(filled(book, lot), least))
        self.assertEqual(met, {True, False})
        self.assertEqual((hole_of(LIST, ()), filled(LIST, ())), (None, ()))

    def test_wide(self):
        draw = random.Random(303)
        for book in (BAND, CHAIN, STAR, grown_jointed(draw), outright.band_book(40, 3)):
            for many in (0, 1, 8, 20, 35, 40):
                lot = tuple(sorted(draw.sample(range(40), many)))
                wanted = min(holes_near(book, lot), default=None)
                self.assertEqual(hole_of(book, lot), wanted)
                full = filled(book, lot)
                self.assertIsNone(hole_of(book, full))
                self.assertLessEqual(set(lot), set(full))
                grown = set(lot)
                while holes_near(book, sorted(grown)):
                    grown.add(holes_near(book, sorted(grown))[-1][1])
                self.assertEqual(full, tuple(sorted(grown)))
        self.assertEqual(hole_of(BAND, (0, 5, 20)), (0, 1, 5))
        self.assertEqual(filled(BAND, (0, 5, 20, 39)), (0, 1, 2, 3, 4, 5, 20, 39))

    def test_wrong_inputs(self):
        for lot in ODD + ((3,), (1, 0), [0, 1], (0, 0), (0, True), (0, 10 ** 40)):
            if not outright.is_lot(LIST, lot):
                for call in (hole_of, filled, cut_pair, lambda book, value: lets_cut(book, value, None)):
                    self.assertEqual(refused(call, LIST, lot), ("NotUsable", "lot", -1), lot)
        self.assertEqual((hole_of(lot=(0, 2), book=LIST), filled(lot=(0, 2), book=LIST)), ((0, 1, 2), (0, 1, 2)))


def holes_near(book, lot):
    """The holes of a wide book, by its own lists, which hold all its ties."""
    found = set()
    for things in book[1]:
        there = [x for x in things if x in lot]
        for low, high in combinations(there, 2):
            found |= {(low, x, high) for x in outright.between(book, (low, high)) if x not in lot}
    return sorted(found)


class Cuts(unittest.TestCase):
    def test_examples(self):
        self.assertEqual(lets_cut(LIST, (0, 2), (((0, 1),), ((1, 2),))), (((0, 1),), ()))

    def test_by_all_pairs(self):
        """Also (G9): keeping goes with least and with greatest common ones exactly if there is no hole."""
        met = set()
        for book in BOOKS:
            found = outright.sortings(book)
            for lot in outright.lots(range(book[0])):
                if not lot:
                    continue
                pair = cut_pair(book, lot)
                met.add(pair is None)
                self.assertIs(pair is None, hole_of(book, lot) is None)
                if pair is not None:
                    wanted = check_cut(book, lot, pair)
                    self.assertEqual(wanted[0], "gives")
                    self.assertTrue(same(refused(lets_cut, book, lot, pair), wanted))
                if len(found) <= 18:
                    kept = kept_to(book, lot)
                    for common in (least_common, greatest_common):
                        goes = all(
                            restricted(book, common(book, two), lot) == common(
                                kept, tuple(restricted(book, one, lot) for one in two))
                            for two in combinations(found, 2))
                        self.assertIs(goes, pair is None)
        self.assertEqual(met, {True, False})

    def test_more_things(self):
        draw = random.Random(304)
        for book in LARGE + (outright.band_book(10, 6),):
            for _ in range(12):
                lot = tuple(sorted(draw.sample(range(10), draw.randrange(1, 10))))
                pair = cut_pair(book, lot)
                self.assertIs(pair is None, hole_of(book, lot) is None)
                if pair is not None:
                    whole, parts = lets_cut(book, lot, pair)
                    self.assertNotEqual(whole, parts)

    def test_papers_changed(self):
        draw = random.Random(305)
        met = set()
        for book in (LIST, PAIR, (4, ((0, 1, 2, 3),)), (5, ((0, 1, 2), (2, 3, 4)))):
            found = outright.sortings(book)
            for lot in outright.lots(range(book[0])):
                if not lot:
                    continue
                paper = cut_pair(book, lot) or (draw.choice(found), draw.choice(found))
                values = list(changes(paper)) + list(outright.rebooled(paper))
                values = draw.sample(values, min(20, len(values))) + [paper, paper[::-1], list(paper), paper[:1], paper * 2]
                values += [(draw.choice(found), draw.choice(found)) for _ in range(5)]
                for value in values:
                    wanted = check_cut(book, lot, value)
                    met.add(wanted[1:] if wanted[0] == "InvalidPaper" else "gives")
                    self.assertTrue(same(refused(lets_cut, book, lot, value), wanted), (book, lot, value))
        self.assertEqual(met, {("shape", -1), ("sorting", 0), ("sorting", 1), ("same", -1), "gives"})

    def test_empty_lot(self):
        for lot in ((), [], None, (0, 0)):
            self.assertEqual(refused(cut_pair, LIST, lot), ("NotUsable", "lot", -1))
            self.assertEqual(refused(lets_cut, LIST, lot, (((0, 1),), ((1, 2),))), ("NotUsable", "lot", -1))
        self.assertEqual(refused(lambda: lets_cut(thing=None, lot=(0, 2), book=LIST)), told("shape", -1))


if __name__ == "__main__":
    unittest.main()
