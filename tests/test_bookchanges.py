"""[5], [16]: books kept to a lot, with lists more or fewer, beside, rebased, mirrored."""
import random
import unittest
from itertools import combinations, permutations

import outright
from outright import GAP, LIST, PAIR, SMALL, refused, same
from listbylist.bookchanges import beside, kept_to, mirrored, rebased, with_list, without_list

WIDE = (outright.band_book(40, 6), outright.ring_book(40), (40, ()))


class Kept(unittest.TestCase):
    def test_example(self):
        self.assertEqual(kept_to(PAIR, (0, 2, 3)), (3, ((0, 1), (1, 2))))

    def test_by_the_words(self):
        for book in SMALL:
            for lot in outright.lots(range(book[0])):
                if lot == ():
                    continue
                lists = [tuple(k for k, x in enumerate(lot) if x in things) for things in book[1]]
                wanted = (len(lot), tuple(things for things in lists if len(things) > 1))
                self.assertTrue(same(kept_to(book, lot), wanted))

    def test_edges(self):
        self.assertEqual(kept_to(LIST, (1,)), (1, ()))
        self.assertEqual(kept_to(LIST, (0, 1, 2)), LIST)
        self.assertEqual(kept_to((4, ((0, 1, 2), (0, 1, 3))), (0, 1)), (2, ((0, 1), (0, 1))))
        self.assertEqual(kept_to(WIDE[0], (0, 5, 6, 39)), (4, ((0, 1), (1, 2), (1, 2), (1, 2), (1, 2), (1, 2))))
        self.assertEqual(refused(kept_to, PAIR, ()), ("NotUsable", "lot", -1))


class Lists(unittest.TestCase):
    def test_with_list(self):
        for book in SMALL + WIDE:
            if book[0] < 2:
                continue
            self.assertTrue(same(with_list(book, (1, 0)), (book[0], (*book[1], (0, 1)))))
        self.assertEqual(with_list(GAP, (3, 0, 1)), (4, ((0, 1, 2), (0, 2, 3), (0, 1, 3))))
        self.assertEqual(with_list((3, ()), (2, 1)), (3, ((1, 2),)))
        for things in ((), (1,), (1, 1), (0, 4), (0, True), [0, 1], None, "01", (0, -1), (0, 10 ** 40), (0, 1, 0)):
            self.assertEqual(refused(with_list, GAP, things), ("NotUsable", "things", -1))

    def test_without_list(self):
        for book in SMALL + WIDE:
            for listed in range(len(book[1])):
                lists = tuple(things for k, things in enumerate(book[1]) if k != listed)
                self.assertTrue(same(without_list(book, listed), (book[0], lists)))
            for listed in (len(book[1]), -1, True, False, None, "0", (0,), 10 ** 40):
                self.assertEqual(refused(without_list, book, listed), ("NotUsable", "listed", -1))

    def test_with_and_without(self):
        for book in SMALL:
            if book[0] >= 2:
                self.assertEqual(without_list(with_list(book, (1, 0)), len(book[1])), book)


class Beside(unittest.TestCase):
    def test_by_the_words(self):
        for book, other in combinations(SMALL + WIDE, 2):
            moved = tuple(tuple(x + book[0] for x in things) for things in other[1])
            self.assertTrue(same(beside(book, other), (book[0] + other[0], book[1] + moved)))

    def test_other_of_any_size(self):
        self.assertEqual(beside((1, ()), (10 ** 40, ((0, 7),))), (10 ** 40 + 1, ((1, 8),)))
        for other in (None, 3, (3,), (0, ()), [3, ()], (3, [(0, 1)]), (3, ((0, True),)), (3, ((1, 0),)), "3; 0 1"):
            self.assertEqual(refused(beside, PAIR, other), ("NotUsable", "other", -1))


class Rebased(unittest.TestCase):
    def test_examples(self):
        self.assertEqual(rebased(PAIR, (3, 0, 1, 2)), (4, ((1, 2, 3), (0, 2, 3))))
        self.assertEqual(mirrored(GAP), (4, ((1, 2, 3), (0, 1, 3))))
        self.assertEqual(mirrored((1, ())), (1, ()))

    def test_by_the_words(self):
        draw = random.Random(5)
        for book in SMALL:
            lines = list(permutations(range(book[0])))
            for line in draw.sample(lines, min(8, len(lines))):
                lists = tuple(tuple(sorted(line.index(x) for x in things)) for things in book[1])
                self.assertTrue(same(rebased(book, line), (book[0], lists)))
            self.assertEqual(rebased(book, tuple(range(book[0]))), book)

    def test_mirrored(self):
        for book in SMALL + WIDE:
            self.assertEqual(mirrored(book), rebased(book, tuple(range(book[0] - 1, -1, -1))))
            self.assertEqual(mirrored(mirrored(book)), book)
            lists = tuple(tuple(sorted(book[0] - 1 - x for x in things)) for things in book[1])
            self.assertTrue(same(mirrored(book), (book[0], lists)))


if __name__ == "__main__":
    unittest.main()
