"""[6], [24], [25], [26], [32]: lines, what leads where, orders, sortings by orders."""
import random
import unittest
from itertools import combinations, permutations, product

import outright
from outright import GAP, LIST, LOOP, PAIR, SMALL, THREE, refused, same, told_by
from listbylist.listorders import orders_of, own_orders, sorting_by
from listbylist.sortlines import fits_line, line_of, sorting_of
from listbylist.ways import leads, way_of


def order_of(things, turned):
    """The order of a list in which each is ahead of all later ones."""
    for order in permutations(things):
        if all(outright.ahead(turned, x, y) for x, y in combinations(order, 2)):
            return order
    return None


class Lines(unittest.TestCase):
    def test_examples(self):
        self.assertEqual(sorting_of(PAIR, (3, 1, 0, 2)), ((0, 1), (1, 3), (2, 3)))
        self.assertIs(fits_line(LIST, ((0, 1),), (1, 2, 0)), False)
        self.assertEqual(line_of(GAP, ((0, 2), (1, 2))), (2, 0, 1, 3))
        self.assertEqual(sorting_of((1, ()), (0,)), ())

    def test_all_lines(self):
        for book in SMALL:
            found, lines = outright.sortings(book), list(permutations(range(book[0])))
            for line in lines:
                self.assertTrue(same(sorting_of(book, line), outright.by_line(book, line)))
            self.assertEqual({sorting_of(book, line) for line in lines}, set(found))
            for sorting in found:
                fitting = [line for line in lines if outright.fits(book, sorting, line)]
                self.assertTrue(same(line_of(book, sorting), fitting[0]))
                for line in fitting:
                    self.assertEqual(sorting_of(book, line), sorting)
            for sorting in found[::5]:
                for line in lines[::3]:
                    self.assertIs(fits_line(book, sorting, line), outright.fits(book, sorting, line))

    def test_ten_things(self):
        draw = random.Random(1)
        for book in (outright.ring_book(10), outright.band_book(10, 3), (10, ((0, 9), (1, 8), (2, 7)))):
            for _ in range(20):
                line = tuple(draw.sample(range(10), 10))
                sorting = sorting_of(book, line)
                self.assertEqual(sorting, outright.by_line(book, line))
                first = line_of(book, sorting)
                self.assertTrue(outright.fits(book, sorting, first) and first <= line)
                self.assertIs(fits_line(book, sorting, line), True)


class Ways(unittest.TestCase):
    def test_examples(self):
        self.assertIs(leads(PAIR, ((0, 1),), 1, 0), True)
        self.assertEqual(way_of(PAIR, (), 0, 1), (0, 1))
        self.assertIsNone(way_of(PAIR, (), 1, 0))

    def test_all_pairs(self):
        for book in SMALL:
            for sorting in outright.sortings(book)[::3]:
                for here, there in permutations(range(book[0]), 2):
                    ahead = outright.tied(book, here, there) and outright.ahead(sorting, here, there)
                    self.assertIs(leads(book, sorting, here, there), ahead)
                    reached, way = self.reached(book, sorting, here), way_of(book, sorting, here, there)
                    if there in reached:
                        self.assertTrue(self.is_way(book, sorting, way), way)
                        self.assertEqual((way[0], way[-1]), (here, there))
                    else:
                        self.assertIsNone(way)

    def reached(self, book, sorting, here):
        found = {here}
        for _ in range(book[0]):
            found |= {
                y for x in found for y in range(book[0])
                if outright.tied(book, x, y) and outright.ahead(sorting, x, y)
            }
        return found - {here}

    def is_way(self, book, sorting, way):
        return type(way) is tuple and len(way) > 1 and all(
            outright.tied(book, x, y) and outright.ahead(sorting, x, y) for x, y in zip(way, way[1:]))


class Orders(unittest.TestCase):
    def test_examples(self):
        self.assertEqual(orders_of(PAIR, ((0, 1),)), ((1, 0, 2), (1, 2, 3)))
        self.assertEqual(own_orders((3, ((0, 2),)), ((0, 2),)), ((2, 0),))
        self.assertEqual(sorting_by(PAIR, ((1, 0, 2), (1, 2, 3))), ((0, 1),))
        self.assertEqual(orders_of(LIST, ((0, 2), (1, 2))), ((2, 0, 1),))
        self.assertEqual(orders_of((2, ()), ()), ((0,), (1,)))
        self.assertEqual(own_orders((2, ()), ()), ())

    def test_there_and_back(self):
        for book in SMALL:
            for sorting in outright.sortings(book):
                wanted = tuple(order_of(things, sorting) for things in outright.full(book))
                self.assertTrue(same(orders_of(book, sorting), wanted))
                own = tuple(order_of(things, sorting) for things in book[1])
                self.assertTrue(same(own_orders(book, sorting), own))
                self.assertTrue(same(sorting_by(book, wanted), sorting))

    def test_all_orders(self):
        draw = random.Random(2)
        outcomes = set()
        for book in SMALL:
            every = [list(permutations(things)) for things in outright.full(book)]
            tuples = list(product(*every)) if sum(map(len, every)) < 26 else [
                tuple(map(draw.choice, every)) for _ in range(100)]
            for orders in tuples[:300]:
                wanted, outcome = told_by(book, orders), refused(sorting_by, book, orders)
                outcomes.add(wanted[0])
                self.assertEqual(outcome[:len(wanted)], wanted, (book, orders))
                if wanted[0] == "InRound":
                    turned = tuple(sorted(
                        tie for tie in outright.ties(book)
                        if any(tie[0] in x and tie[1] in x and x.index(tie[1]) < x.index(tie[0]) for x in orders)))
                    self.assertTrue(outright.is_round(book, turned, outcome[1]))
        self.assertEqual(outcomes, {"gives", "Quarrel", "InRound"})

    def test_quarrel_ahead_of_round(self):
        book = (6, ((0, 1, 2), (1, 2, 3), (3, 4), (4, 5), (3, 5)))
        self.assertEqual(outright.full(book), ((0, 1, 2), (1, 2, 3), (3, 4, 5)))
        book = (7, ((0, 1, 2), (1, 2, 3), (3, 4), (4, 5), (5, 6), (3, 6)))
        around = ((3, 4), (6, 3), (4, 5), (5, 6))
        self.assertEqual(refused(sorting_by, book, ((2, 1, 0), (1, 2, 3)) + around), ("Quarrel", (1, 2)))
        outcome = refused(sorting_by, book, ((2, 1, 0), (2, 1, 3)) + around)
        self.assertEqual(outcome[0], "InRound")
        self.assertEqual(sorted(outcome[1]), [3, 4, 5, 6])

    def test_first_tie_that_quarrels(self):
        book = (4, ((0, 1, 2, 3), (0, 1, 2, 3)))
        self.assertEqual(orders_of(book, ()), ((0, 1, 2, 3),))
        book = (5, ((0, 1, 2, 3), (1, 2, 3, 4)))
        self.assertEqual(refused(sorting_by, book, ((0, 3, 2, 1), (1, 2, 3, 4))), ("Quarrel", (1, 2)))
        self.assertEqual(refused(sorting_by, book, ((0, 1, 3, 2), (1, 2, 3, 4))), ("Quarrel", (2, 3)))
        self.assertEqual(refused(sorting_by, book, ((1, 3, 2, 0), (3, 2, 1, 4))), ("Quarrel", (1, 2)))

    def test_orders_refused(self):
        for orders in (None, 7, "01", [], (), ((0, 1, 2),), ((0, 1, 2), (1, 2, 3), (0,)), [(0, 1, 2), (1, 2, 3)]):
            self.assertEqual(refused(sorting_by, PAIR, orders), ("NotUsable", "orders", -1), orders)
        for bad in (None, 0, "012", [1, 2, 3], (), (1, 2), (1, 2, 2), (1, 2, 3, 3), (0, 1, 2), (True, 2, 3),
                    (1, 2, None), (1, 2, "3"), (1, 2, (3,)), (1, 2, 10 ** 40), (1, 2, -3), (1, 2, 4)):
            self.assertEqual(refused(sorting_by, PAIR, ((2, 1, 0), bad)), ("NotUsable", "orders", 1), bad)
            self.assertEqual(refused(sorting_by, PAIR, (bad, 7)) if bad != (0, 1, 2) else None,
                             ("NotUsable", "orders", 0) if bad != (0, 1, 2) else None, bad)
        self.assertEqual(sorting_by((2, ()), ((0,), (1,))), ())
        self.assertEqual(refused(sorting_by, (2, ()), ((0,), (True,))), ("NotUsable", "orders", 1))
        self.assertEqual(refused(sorting_by, THREE, ((0, 1), (0, 2), (1, 2))), ("NotUsable", "orders", -1))
        # What is wrong with an order comes ahead of a quarrel.
        self.assertEqual(refused(sorting_by, GAP, ((2, 1, 0), (0, 2, True))), ("NotUsable", "orders", 1))
        orders = ([0, 1, 2], [1, 2, 3])
        refused(sorting_by, PAIR, orders)
        self.assertEqual(orders, ([0, 1, 2], [1, 2, 3]))
        self.assertEqual(refused(sorting_by, LOOP, ((2, 0), (0, 3), (1, 2), (3, 1)))[0], "InRound")


if __name__ == "__main__":
    unittest.main()
