"""[4], [17], [18]: full lists, what they share, taking out, bare rings, trees of lists."""
import random
import unittest
from itertools import combinations, permutations

import outright
from outright import GAP, LIST, LOOP, ODD, PAIR, SMALL, changes, refused, same, told
from listbylist.fulllists import full_lists, full_with, is_full, shared_by
from listbylist.listtrees import lets_tree, list_tree
from listbylist.taking import is_bare_ring, ring_of, taking_of


def grown_books(many, size, most, seed):
    draw = random.Random(seed)
    return tuple(outright.grown_book(draw, size, most) for _ in range(many))


# Books without a bare ring, wide ones among them.
WIDE = grown_books(6, 40, 6, 1) + grown_books(4, 25, 4, 2) + (
    outright.band_book(40, 6), outright.band_book(40, 2), (40, ()))
RINGS = tuple(outright.ring_book(size) for size in (4, 5, 6, 7, 10, 40))


def joins_all(book, lists, tree, thing):
    """True if the pairs of the tree that both hold the thing join all full lists that hold it."""
    holding = [place for place, things in enumerate(lists) if thing in things]
    reached = set(holding[:1])
    for _ in holding:
        for pair in tree:
            if reached & set(pair) and set(pair) <= set(holding):
                reached |= set(pair)
    return reached == set(holding)


def closes_ring(tree, pair):
    """True if pairs of the tree lead from the one place of the pair to the other."""
    reached = {pair[0]}
    for _ in tree:
        for other in tree:
            if reached & set(other):
                reached |= set(other)
    return pair[1] in reached


def check_tree(book, value):
    """What lets_tree gives by its words."""
    if type(value) is not tuple:
        return told("shape", -1)
    lists = outright.full(book)
    for k, pair in enumerate(value):
        if not (type(pair) is tuple and len(pair) == 2 and all(outright.is_below(len(lists), x) for x in pair)):
            return told("pair", k)
        if pair[0] >= pair[1] or not set(lists[pair[0]]) & set(lists[pair[1]]):
            return told("pair", k)
        if k and pair <= value[k - 1]:
            return told("sequence", k)
        if closes_ring(value[:k], pair):
            return told("ring", k)
    for thing in range(book[0]):
        if not joins_all(book, lists, value, thing):
            return told("apart", thing)
    return ("gives", len(value))


def taken(book):
    """The things as they are taken out by the words, or None."""
    left, out = list(range(book[0])), []
    while left:
        for x in left:
            near = [y for y in left if outright.tied(book, x, y)]
            if all(outright.tied(book, *pair) for pair in combinations(near, 2)):
                break
        else:
            return None
        left.remove(x)
        out.append(x)
    return tuple(out)


class FullLists(unittest.TestCase):
    def test_examples(self):
        self.assertEqual(full_lists((4, ((0, 1), (1, 2), (0, 2)))), ((0, 1, 2), (3,)))
        self.assertEqual(shared_by(GAP, 0, 1), (0, 2))

    def test_by_the_words(self):
        for book in SMALL:
            lists = outright.full(book)
            self.assertTrue(same(full_lists(book), lists), book)
            for lot in outright.lots(range(book[0])):
                self.assertIs(is_full(book, lot), lot in lists)
                places = tuple(k for k, things in enumerate(lists) if set(lot) <= set(things))
                self.assertTrue(same(full_with(book, lot), places))
            for place, other in permutations(range(len(lists)), 2):
                shared = tuple(x for x in lists[place] if x in lists[other])
                self.assertTrue(same(shared_by(book, place, other), shared))

    def test_ten_things(self):
        draw = random.Random(8)
        for _ in range(6):
            lists = tuple(tuple(sorted(draw.sample(range(10), draw.choice((2, 3, 4))))) for _ in range(8))
            self.assertTrue(same(full_lists((10, lists)), outright.full((10, lists))))

    def test_wide(self):
        self.assertEqual(full_lists(WIDE[-3]), WIDE[-3][1])
        self.assertEqual(full_lists((40, ())), tuple((x,) for x in range(40)))
        for book in WIDE:
            lists = full_lists(book)
            self.assertEqual(lists, tuple(sorted(lists)))
            for things in lists:
                self.assertIs(is_full(book, things), True)
                self.assertTrue(all(outright.tied(book, *pair) for pair in combinations(things, 2)))
                for x in set(range(book[0])) - set(things):
                    self.assertFalse(all(outright.tied(book, x, y) for y in things))
            for tie in outright.ties(book):
                self.assertTrue(full_with(book, tie))

    def test_is_full_of_odd_values(self):
        for value in ODD:
            self.assertIs(is_full(LIST, value), False, value)
            self.assertIs(is_full((2, ((0, 1),)), value), value == (0, 1) and same(value, (0, 1)), value)
        self.assertIs(is_full(LIST, [0, 1, 2]), False)
        self.assertIs(is_full(LIST, (0, True, 2)), False)
        self.assertIs(is_full((1, ()), (False,)), False)
        self.assertIs(is_full((1, ()), (0,)), True)
        self.assertIs(is_full((1, ()), ()), False)

    def test_places_refused(self):
        for book in (PAIR, GAP):
            for place in (2, -1, True, False, None, "0", (0,), 10 ** 40):
                self.assertEqual(refused(shared_by, book, place, None), ("NotUsable", "place", -1))
                self.assertEqual(refused(shared_by, book, 0, place), ("NotUsable", "other", -1))
            self.assertEqual(refused(shared_by, book, 1, 1), ("NotUsable", "other", -1))
        for lot in (None, (0, 0), (1, 0), (4,), (True,), [0], (-1, 0)):
            self.assertEqual(refused(full_with, PAIR, lot), ("NotUsable", "lot", -1))


class Taking(unittest.TestCase):
    def test_examples(self):
        self.assertEqual(taking_of(GAP), (1, 0, 2, 3))
        self.assertEqual(taking_of((3, ())), (0, 1, 2))

    def test_by_the_words(self):
        for book in SMALL:
            wanted = taken(book)
            if outright.rings(book):
                self.assertIsNone(wanted)
                with self.assertRaises(ValueError) as caught:
                    taking_of(book)
                self.assertEqual(type(caught.exception).__name__, "BareRing")
                self.assertTrue(outright.is_ring(book, caught.exception.ring))
            else:
                self.assertTrue(same(taking_of(book), wanted))
        for book in WIDE:
            self.assertTrue(same(taking_of(book), taken(book)))

    def test_ring_of(self):
        for book in SMALL:
            ring = ring_of(book)
            if outright.rings(book):
                self.assertTrue(outright.is_ring(book, ring))
            else:
                self.assertIsNone(ring)
        for book in WIDE:
            self.assertIsNone(ring_of(book))
        for book in RINGS:
            self.assertTrue(outright.is_ring(book, ring_of(book)))
            self.assertEqual(len(ring_of(book)), book[0])

    def test_ring_of_wide_drawn(self):
        draw = random.Random(4)
        for many in (20, 30, 40):
            lists = tuple(tuple(sorted(draw.sample(range(40), draw.choice((2, 3))))) for _ in range(many))
            ring = ring_of((40, lists))
            if ring is None:
                self.assertIsNotNone(taken((40, lists)))
            else:
                self.assertTrue(outright.is_ring((40, lists), ring))

    def test_ring_elsewhere(self):
        """Things between rings, or tied to one another in threes, can't go, but rings need not be through these."""
        two_rings = (9, ((0, 1), (0, 5), (1, 2), (2, 3), (3, 4), (1, 4), (5, 6), (6, 7), (7, 8), (5, 8)))
        three_rings = (9, ((0, 1, 2), (1, 3), (3, 4), (0, 4), (2, 5), (5, 6), (1, 6), (2, 7), (7, 8), (0, 8)))
        draw = random.Random(14)
        drawn = [
            (9, tuple(tuple(sorted(draw.sample(range(9), draw.choice((2, 2, 3))))) for _ in range(draw.randrange(6, 12))))
            for _ in range(300)]
        found = 0
        for book in [two_rings, three_rings] + drawn:
            ring = ring_of(book)
            found += ring is not None
            self.assertIs(ring is None, taken(book) is not None, book)
            self.assertTrue(ring is None or outright.is_ring(book, ring), book)
        self.assertTrue(20 < found < 290)

    def test_ring_with_lists_on_it(self):
        book = (10, tuple((x, (x + 1) % 5, 5 + x) if x < 4 else (0, 4, 9) for x in range(5)))
        self.assertEqual(sorted(ring_of(book)), [0, 1, 2, 3, 4])
        self.assertIs(is_bare_ring(book, (0, 1, 2, 3, 4)), True)
        self.assertIs(is_bare_ring(book, (0, 5, 1, 2, 3, 4)), False)

    def test_is_bare_ring(self):
        for book in SMALL:
            for many in range(book[0] + 1):
                for value in permutations(range(book[0]), many):
                    self.assertIs(is_bare_ring(book, value), outright.is_ring(book, value))
        for value in list(ODD) + list(changes((0, 2, 1, 3))):
            self.assertIs(is_bare_ring(LOOP, value), outright.is_ring(LOOP, value), value)
        self.assertIs(is_bare_ring(LOOP, (False, 2, True, 3)), False)
        self.assertIs(is_bare_ring(LOOP, [0, 2, 1, 3]), False)


class Trees(unittest.TestCase):
    def test_accepted(self):
        for book in SMALL + WIDE:
            if ring_of(book) is None:
                tree = list_tree(book)
                self.assertTrue(type(tree) is tuple and all(type(pair) is tuple for pair in tree))
                self.assertIs(type(lets_tree(book, tree)), int)
                self.assertEqual(lets_tree(book, tree), len(tree))
        for book in SMALL:
            if ring_of(book) is None:
                self.assertEqual(check_tree(book, list_tree(book)), ("gives", len(list_tree(book))))

    def test_bare_ring(self):
        for book in SMALL + RINGS[:5]:
            if outright.rings(book) if book[0] < 6 else True:
                with self.assertRaises(ValueError) as caught:
                    list_tree(book)
                self.assertEqual(type(caught.exception).__name__, "BareRing")
                self.assertTrue(outright.is_ring(book, caught.exception.ring))

    def test_checker_by_the_words(self):
        for book in SMALL:
            many = len(outright.full(book))
            pairs = list(combinations(range(many), 2))
            values = list(ODD)
            values.extend(value for k in range(4) for value in combinations(pairs, k))
            if ring_of(book) is None:
                values.extend(changes(list_tree(book)))
                values.extend(permutations(list_tree(book)))
            for value in values[:400]:
                self.assertEqual(refused(lets_tree, book, value), check_tree(book, value), (book, value))

    def test_checker_with_bare_ring(self):
        # No pairs serve a book with a bare ring.
        for book in (LOOP, RINGS[1]):
            pairs = list(combinations(range(len(full_lists(book))), 2))
            for k in range(len(pairs) + 1):
                for value in combinations(pairs, k):
                    self.assertEqual(refused(lets_tree, book, value)[0], "InvalidPaper")

    def test_first_that_applies(self):
        book = (5, ((0, 1, 2), (0, 2, 3), (0, 3, 4)))
        for value, word, at in (
            (None, "shape", -1), ([(0, 1), (1, 2)], "shape", -1), (((0, 1), (1, 0)), "pair", 1),
            (((1, 2), (0, 1)), "sequence", 1), (((0, 1), (0, 1)), "sequence", 1), (((0, 1), (1, 3)), "pair", 1),
            (((0, 1), (0, 2), (1, 2)), "ring", 2), ((), "apart", 0), (((0, 1), (0, 2)), "apart", 3),
            (((0, 1), (True, 2)), "pair", 1), (((0, 1), [1, 2]), "pair", 1), (((0, 0),), "pair", 0),
            (((0, 1), (0, 2), (7, 8)), "pair", 2),
        ):
            self.assertEqual(refused(lets_tree, book, value), told(word, at), value)
        self.assertEqual(lets_tree(book, ((0, 1), (1, 2))), 2)
        # Lists that share nothing are no pair.
        self.assertEqual(refused(lets_tree, (4, ((0, 1), (2, 3))), ((0, 1),)), told("pair", 0))
        self.assertEqual(lets_tree((4, ((0, 1), (2, 3))), ()), 0)


if __name__ == "__main__":
    unittest.main()
