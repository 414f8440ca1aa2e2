"""[4], [14], [15]: books, ties, rows, what is near and between."""
import random
import unittest
from itertools import permutations, product

import outright
from outright import GAP, LIST, LOOP, ODD, PAIR, SMALL, changes, refused, told
from listbylist.bookchecker import lets_book
from listbylist.bookkinds import is_book, is_row, is_tie
from listbylist.books import between_of, book_of, is_tied, near_of, ties_of

WIDE = (outright.band_book(40, 6), outright.band_book(40, 2), outright.ring_book(40), (40, ()))


def check_book(value):
    """What lets_book gives by its words."""
    if type(value) is not tuple or len(value) != 2:
        return told("shape", -1)
    size, lists = value
    if type(size) is not int or size < 1:
        return told("size", -1)
    if type(lists) is not tuple:
        return told("lists", -1)
    for k, things in enumerate(lists):
        if type(things) is not tuple:
            return told("shape", k)
        if len(things) < 2:
            return told("short", k)
        if not all(outright.is_below(size, x) for x in things):
            return told("thing", k)
        if not all(a < b for a, b in zip(things, things[1:])):
            return told("sequence", k)
    return ("gives", len({pair for things in lists for pair in outright.combinations(things, 2)}))


class Kinds(unittest.TestCase):
    def test_example(self):
        self.assertIs(is_row(GAP, (0, 1, 3)), False)

    def test_is_book(self):
        for book in SMALL + WIDE:
            self.assertIs(is_book(book), True)
        for value in ODD:
            self.assertIs(is_book(value), False, value)
        for book in (LIST, GAP, (1, ()), (5, ((0, 2), (1, 3, 4)))):
            for value in changes(book):
                self.assertIs(is_book(value), outright.is_book(value), value)

    def test_is_book_of_any_size(self):
        self.assertIs(is_book((10 ** 40, ((0, 10 ** 39),))), True)
        self.assertIs(is_book((0, ())), False)
        self.assertIs(is_book((True, ())), False)
        self.assertIs(is_book((2, ((False, 1),))), False)
        self.assertIs(is_book((2, ((0, True),))), False)
        self.assertIs(is_book((2, ((0,),))), False)
        self.assertIs(is_book((3, ((1, 0),))), False)
        self.assertIs(is_book([3, ()]), False)
        self.assertIs(is_book((3, [])), False)

    def test_ties_and_rows_over_all_tuples(self):
        for book in SMALL:
            if book[0] > 4:
                continue
            values = [value for many in range(4) for value in product(range(-1, book[0] + 1), repeat=many)]
            for value in values:
                self.assertIs(is_tie(book, value), outright.is_tie(book, value), (book, value))
                self.assertIs(is_row(book, value), outright.is_row(book, value), (book, value))

    def test_rows_over_all_lots(self):
        for book in SMALL:
            for lot in outright.lots(range(book[0])):
                self.assertIs(is_row(book, lot), outright.is_row(book, lot))

    def test_odd_values(self):
        for book in (LIST, PAIR, GAP, LOOP, (1, ())):
            for value in ODD:
                self.assertIs(is_tie(book, value), outright.is_tie(book, value), value)
                self.assertIs(is_row(book, value), outright.is_row(book, value), value)
        self.assertIs(is_tie(LIST, (False, True)), False)
        self.assertIs(is_tie(LIST, (0, True)), False)
        self.assertIs(is_row(LIST, (0, True, 2)), False)
        self.assertIs(is_tie(LIST, [0, 1]), False)
        self.assertIs(is_tie(LOOP, (0, 1)), False)

    def test_wide(self):
        book = outright.band_book(40, 6)
        self.assertIs(is_tie(book, (30, 35)), True)
        self.assertIs(is_tie(book, (30, 36)), False)
        self.assertIs(is_row(book, tuple(range(40))), True)
        self.assertIs(is_row(book, (0, 5, 10, 16)), False)
        self.assertIs(is_row(outright.ring_book(40), (0, 39)), True)


class Checker(unittest.TestCase):
    def test_by_the_words(self):
        values = list(ODD) + list(SMALL) + list(WIDE[1:])
        for book in (LIST, PAIR, (5, ((0, 2), (1, 3, 4))), (2, ()), (4, ((0, 1, 3), (1, 3)))):
            values.extend(changes(book))
            values.extend(change for value in list(changes(book))[::7] for change in changes(value))
        for value in values:
            self.assertEqual(refused(lets_book, value), check_book(value), value)

    def test_first_that_applies(self):
        for value, word, at in (
            (None, "shape", -1), ((3,), "shape", -1), ([3, ()], "shape", -1), ((3, (), ()), "shape", -1),
            ((0, 7), "size", -1), ((True, ()), "size", -1), (("3", ()), "size", -1), ((-1, None), "size", -1),
            ((3, [(0, 1)]), "lists", -1), ((3, None), "lists", -1), ((3, "01"), "lists", -1),
            ((3, ((0, 1), [0, 1], (7,))), "shape", 1), ((3, ((0, 1), 7)), "shape", 1),
            ((3, ((),)), "short", 0), ((3, ((7,),)), "short", 0), ((3, ((1, 0), (7,))), "sequence", 0),
            ((3, ((0, 3),)), "thing", 0), ((3, ((1, 0, True),)), "thing", 0), ((3, ((1, 0, "2"),)), "thing", 0),
            ((3, ((-1, 0),)), "thing", 0), ((3, ((0, 1), (1, 1))), "sequence", 1),
            ((3, ((0, 1), (0, 1, 10 ** 40))), "thing", 1),
        ):
            with self.assertRaises(ValueError) as caught:
                lets_book(value)
            self.assertEqual((caught.exception.word, caught.exception.at), (word, at), value)

    def test_any_size(self):
        self.assertEqual(lets_book((10 ** 40, ((0, 5, 10 ** 39), (5, 10 ** 39)))), 3)
        self.assertEqual(lets_book((5000, (tuple(range(4900)),))), 4900 * 4899 // 2)
        self.assertEqual(lets_book(outright.ring_book(40)), 40)
        self.assertEqual(lets_book(thing=LIST), 3)


class Books(unittest.TestCase):
    def test_book_of(self):
        self.assertEqual(book_of(3), (3, ()))
        self.assertEqual(book_of(4, (2, 1, 0), (3, 1, 2)), PAIR)
        self.assertEqual(book_of(4, (1, 0), (0, 1), (1, 0)), (4, ((0, 1), (0, 1), (0, 1))))
        draw = random.Random(3)
        for book in SMALL + WIDE:
            lists = [tuple(draw.sample(things, len(things))) for things in book[1]]
            self.assertEqual(book_of(book[0], *lists), book)
        self.assertEqual(book_of(size=2), (2, ()))

    def test_book_of_refuses(self):
        for size in (0, -1, True, False, None, "3", (3,), [3], -10 ** 40):
            self.assertEqual(refused(book_of, size, (0, 1), None), ("NotUsable", "size", -1))
        for things in (None, 1, "01", [0, 1], (), (0,), (0, 0), (0, 3), (0, -1), (0, True), (False, 2), (0, None),
                       (1, 2, 1), (0, 10 ** 40), ((0, 1),), (0, "1")):
            self.assertEqual(refused(book_of, 3, things), ("NotUsable", "lists", 0))
            self.assertEqual(refused(book_of, 3, (0, 1), (2, 1), things, None), ("NotUsable", "lists", 2))

    def test_by_the_words(self):
        for book in SMALL + WIDE:
            things = range(book[0])
            self.assertTrue(outright.same(ties_of(book), outright.ties(book)))
            for here in things:
                near = tuple(x for x in things if outright.tied(book, here, x))
                self.assertTrue(outright.same(near_of(book, here), near))
            for here, there in list(permutations(things, 2))[:200]:
                self.assertIs(is_tied(book, here, there), outright.tied(book, here, there))
            for tie in outright.ties(book):
                self.assertTrue(outright.same(between_of(book, tie), outright.between(book, tie)))

    def test_examples(self):
        self.assertEqual(between_of(GAP, (0, 3)), (2,))
        self.assertEqual(ties_of((1, ())), ())
        self.assertEqual(near_of(LOOP, 3), (0, 1))

    def test_nothing_is_changed(self):
        lists = [[0, 1], [2]]
        self.assertEqual(refused(book_of, 3, (1, 0), lists), ("NotUsable", "lists", 1))
        self.assertEqual(lists, [[0, 1], [2]])
        values = [3, [[0, 1]]]
        refused(lets_book, values)
        is_book(values)
        self.assertEqual(values, [3, [[0, 1]]])


if __name__ == "__main__":
    unittest.main()
