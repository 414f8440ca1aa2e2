"""[11] (G3), [37], [38], [42]: each thing first and last, and pairs that do not fit list by list."""
import random
import unittest
from itertools import combinations, product

import outright
from outright import GAP, LIST, LOOP, ODD, PAIR, SMALL, THREE, changes, merged_alone, refused, same, told, told_by
from listbylist.firstlast import first_last, fits_first_last
from listbylist.joints import is_jointed, joint_of, own_hole
from listbylist.listmerges import fits_lists, fits_own
from listbylist.unfits import bare_ring_pair, lets_unfit, unfit_own, unfit_pair

RINGS = tuple(outright.ring_book(size) for size in (6, 7, 8, 10))
# A bare ring that falls but once the one way round, and one with things tied to all of it or between its ends.
MORE = RINGS + (
    (5, ((0, 1), (1, 2), (2, 3), (3, 4), (0, 4))),
    (5, ((0, 1, 2), (0, 2, 4), (2, 3, 4), (1, 2, 3))),
    (6, ((0, 1, 3), (0, 1, 5), (1, 3, 4), (1, 4, 5))),
    (6, ((0, 3), (3, 4), (4, 5), (0, 5), (1, 2, 3))),
    (7, ((0, 2, 4), (0, 2, 6), (2, 3, 4), (2, 3, 6), (1, 5))),
    (10, ((0, 1), (1, 2), (2, 3), (3, 4), (4, 5), (5, 6), (6, 7), (0, 7, 8, 9))),
    (10, ((0, 2, 4, 6, 8, 9), (0, 2, 5, 7), (1, 3), (2, 4, 5), (1, 9), (3, 8))),
)


def renumbered(draw, book):
    numbers = list(range(book[0]))
    draw.shuffle(numbers)
    return (book[0], tuple(tuple(sorted(numbers[thing] for thing in things)) for things in book[1]))


def drawn_large(draw):
    """A book of seven to ten things, eight lists at most."""
    size = draw.randrange(7, 11)
    lists = {tuple(sorted(draw.sample(range(size), draw.choice((2, 2, 3, 3, 4))))) for _ in range(8)}
    return (size, tuple(sorted(lists)))


def own_outcome(book, pair):
    return told_by(book, tuple(merged_alone(book, things, pair) for things in book[1]))


def list_outcome(book, pair):
    return told_by(book, tuple(merged_alone(book, things, pair) for things in outright.full(book)))


def check_unfit(book, value):
    """What lets_unfit gives by its words."""
    if type(value) is not tuple or len(value) != 2:
        return told("shape", -1)
    for k in (0, 1):
        if not outright.is_sorting(book, value[k]):
            return told("sorting", k)
    word = list_outcome(book, value)[0]
    return told("fits", -1) if word == "gives" else ("gives", {"Quarrel": "quarrel", "InRound": "round"}[word])


class FirstLast(unittest.TestCase):
    def test_examples(self):
        self.assertEqual(first_last(GAP, 1), (((0, 1),), ((1, 2),)))
        self.assertIs(fits_first_last(LOOP), True)
        self.assertIs(fits_first_last(GAP), False)
        self.assertIs(fits_first_last(LIST), True)

    def test_by_the_words(self):
        for book in SMALL + MORE[:4]:
            for here in range(book[0]):
                found = first_last(book, here)
                wanted = tuple(
                    tuple(tie for tie in outright.ties(book) if tie[end] == here) for end in (1, 0))
                self.assertTrue(same(found, wanted))
                self.assertTrue(all(outright.is_sorting(book, one) for one in found))

    def test_fits(self):
        """True for a book without a bare ring exactly if it is well jointed."""
        met = set()
        for book in SMALL + MORE:
            wanted = all(list_outcome(book, first_last(book, here))[0] == "gives" for here in range(book[0]))
            self.assertIs(fits_first_last(book), wanted, book)
            paper = joint_of(book)
            if paper is None or paper[0] == "gap":
                self.assertIs(wanted, paper is None)
            met.add((paper and paper[0], wanted))
        self.assertEqual(met, {(None, True), ("gap", False), ("ring", True), ("ring", False)})


class Unfits(unittest.TestCase):
    def test_examples(self):
        self.assertEqual(lets_unfit(GAP, (((0, 1),), ((1, 2),))), "quarrel")
        self.assertEqual(lets_unfit(LOOP, (((0, 2),), ((1, 3),))), "round")
        self.assertIsNone(unfit_pair(LIST))
        self.assertIsNone(unfit_own(LIST))
        self.assertIsNone(unfit_pair(THREE))
        self.assertEqual(own_outcome(THREE, unfit_own(THREE)), ("InRound",))

    def test_over_all_pairs(self):
        for book in SMALL:
            found = outright.sortings(book)
            if len(found) > 40:
                continue
            pairs = list(combinations(found, 2))
            unfit = [pair for pair in pairs if list_outcome(book, pair)[0] != "gives"]
            pair = unfit_pair(book)
            self.assertIs(pair is None, not unfit, book)
            if pair is not None:
                self.assertIn(tuple(sorted(pair)), unfit)
                self.assertTrue(same(pair, tuple(pair)))
            unfit = [pair for pair in pairs if own_outcome(book, pair)[0] != "gives"]
            pair = unfit_own(book)
            self.assertIs(pair is None, not unfit, book)
            if pair is not None:
                self.assertIn(tuple(sorted(pair)), unfit)

    def hold(self, book):
        pair = unfit_pair(book)
        self.assertIs(pair is None, is_jointed(book), book)
        if pair is not None:
            self.assertTrue(all(outright.is_sorting(book, one) for one in pair))
            self.assertIs(fits_lists(book, pair), False)
            self.assertEqual(refused(lets_unfit, book, pair), check_unfit(book, pair))
        pair = unfit_own(book)
        self.assertIs(pair is None, is_jointed(book) and own_hole(book) is None, book)
        if pair is not None:
            self.assertTrue(all(outright.is_sorting(book, one) for one in pair))
            self.assertIs(fits_own(book, pair), False)
            self.assertNotEqual(own_outcome(book, pair)[0], "gives")

    def test_more_things(self):
        """Also books with far more sortings than could be gone through."""
        draw = random.Random(61)
        for book in SMALL + MORE:
            for _ in range(6):
                self.hold(renumbered(draw, book))
        for _ in range(80):
            self.hold(drawn_large(draw))
        self.hold(outright.band_book(10, 3))
        self.hold(outright.band_book(8, 6))

    def test_whichever_ring(self):
        """A pair that leads round is found for each bare ring, either way round, from whichever thing."""
        for book in [book for book in SMALL if outright.rings(book)] + list(MORE[:2] + MORE[4:8]):
            for ring in outright.rings(book)[::2]:
                pair = bare_ring_pair(book, ring)
                self.assertTrue(all(outright.is_sorting(book, one) for one in pair))
                self.assertIs(fits_lists(book, pair), False)
                self.assertIs(fits_own(book, pair), False)

    def test_papers_changed(self):
        met = set()
        for book in (GAP, LOOP, PAIR, THREE, MORE[4], MORE[5], SMALL[14]):
            pair = unfit_pair(book) or ((), outright.ties(book))
            for value in list(changes(pair)) + list(ODD) + list(outright.rebooled(pair)) + [pair[::-1], (pair[0],) * 2]:
                wanted = check_unfit(book, value)
                met.add(wanted[1:])
                self.assertEqual(refused(lets_unfit, book, value), wanted, (book, value))
        self.assertEqual(met, {
            ("shape", -1), ("sorting", 0), ("sorting", 1), ("fits", -1), ("quarrel",), ("round",)})

    def test_all_pairs_checked(self):
        for book in (GAP, LOOP, PAIR):
            found = outright.sortings(book)
            for pair in product(found, found):
                self.assertEqual(refused(lets_unfit, book, pair), check_unfit(book, pair))

    def test_first_that_applies(self):
        round_ties = ((0, 1), (1, 2))
        for value, word, at in (
            (None, "shape", -1), ([(), ()], "shape", -1), (((), (), ()), "shape", -1), ((), "shape", -1),
            ((None, None), "sorting", 0), (((), [()]), "sorting", 1), ((round_ties, round_ties), "sorting", 0),
            (((), round_ties), "sorting", 1), ((((False, 1),), ()), "sorting", 0), (((), ()), "fits", -1),
        ):
            self.assertEqual(refused(lets_unfit, GAP, value), told(word, at), value)


if __name__ == "__main__":
    unittest.main()
