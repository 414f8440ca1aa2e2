"""[6], [23]: sortings, ties of a book, and what leads in a round."""
import unittest
from itertools import permutations

import outright
from outright import LIST, LOOP, ODD, PAIR, SMALL, changes, refused, told
from listbylist.rounds import lets_round, round_of
from listbylist.sortkinds import is_sorting, is_ties


def check_round(book, turned, value):
    """What lets_round gives by its words."""
    if type(value) is not tuple or len(value) < 3:
        return told("shape", -1)
    for k, x in enumerate(value):
        if not outright.is_below(book[0], x) or x in value[:k]:
            return told("thing", k)
    for k, x in enumerate(value):
        there = value[(k + 1) % len(value)]
        if not outright.tied(book, x, there) or not outright.ahead(turned, x, there):
            return told("way", k)
    return ("gives", len(value))


class Kinds(unittest.TestCase):
    def test_examples(self):
        self.assertIs(is_sorting(LIST, ((0, 1), (1, 2))), False)
        self.assertIs(is_ties(LIST, ((0, 1), (1, 2))), True)
        self.assertIs(is_sorting(LIST, ()), True)

    def test_over_all_lots_of_ties(self):
        for book in SMALL:
            by_lines = {outright.by_line(book, line) for line in permutations(range(book[0]))}
            found = set()
            for lot in outright.lots(outright.ties(book)):
                self.assertIs(is_ties(book, lot), True)
                self.assertIs(is_sorting(book, lot), lot in by_lines)
                if is_sorting(book, lot):
                    found.add(lot)
            self.assertEqual(found, by_lines)
            self.assertEqual(sorted(found), outright.sortings(book))

    def test_other_values(self):
        for book in (LIST, PAIR, LOOP, (2, ((0, 1),)), (1, ())):
            values = list(ODD)
            for lot in ((), ((0, 1),), ((0, 1), (0, 2)), ((0, 2), (1, 2)), ((0, 2), (1, 3))):
                values.append(lot)
                values.extend(changes(lot))
            for value in values:
                self.assertIs(is_ties(book, value), outright.is_ties(book, value), value)
                self.assertIs(is_sorting(book, value), outright.is_sorting(book, value), value)
        for value in (((False, True),), ((0, True),), [(0, 1)], ([0, 1],), ((0, 2), (0, 1)), ((0, 1), (0, 1)),
                      ((1, 0),), ((0, 3),)):
            self.assertIs(is_ties(LIST, value), False)
            self.assertIs(is_sorting(LIST, value), False)


class Rounds(unittest.TestCase):
    def test_example(self):
        self.assertEqual(lets_round(LIST, ((0, 1), (1, 2)), (0, 2, 1)), 3)

    def test_by_all_lots_of_ties(self):
        for book in SMALL:
            for lot in outright.lots(outright.ties(book)):
                things = round_of(book, lot)
                if outright.in_round(book, lot):
                    self.assertTrue(outright.is_round(book, lot, things), (book, lot))
                    self.assertEqual(lets_round(book, lot, things), len(things))
                else:
                    self.assertIsNone(things)

    def test_ten_things(self):
        book = outright.ring_book(10)
        forward = ((0, 9),)
        self.assertEqual(lets_round(book, forward, round_of(book, forward)), 10)
        self.assertIsNone(round_of(book, ((0, 1), (0, 9))))

    def test_checker_by_the_words(self):
        for book in SMALL[:14]:
            for lot in list(outright.lots(outright.ties(book)))[:64:3]:
                values = list(ODD)
                values.extend(permutations(range(min(book[0], 4)), 3))
                things = round_of(book, lot)
                if things is not None:
                    values.append(things)
                    values.extend(changes(things))
                for value in values:
                    self.assertEqual(
                        refused(lets_round, book, lot, value), check_round(book, lot, value), (book, lot, value))

    def test_first_that_applies(self):
        ties = ((0, 1), (1, 2))
        for value, word, at in (
            (None, "shape", -1), ((0, 2), "shape", -1), ([0, 2, 1], "shape", -1), ((0, 2, 2), "thing", 2),
            ((0, 1, 3), "thing", 2), ((0, True, 2), "thing", 1), ((0, 1, 2), "way", 0), ((2, 0, 1), "way", 0),
            ((1, 2, 0), "way", 0), ((0, 1, 0), "thing", 2),
        ):
            self.assertEqual(refused(lets_round, LIST, ties, value), told(word, at), value)
        self.assertEqual(refused(lets_round, LIST, (), (0, 1, 2)), told("way", 2))
        self.assertEqual(refused(lets_round, PAIR, (), (0, 1, 3)), told("way", 2))
        self.assertEqual(refused(lets_round, PAIR, (), (0, 3, 1)), told("way", 0))

    def test_ties_ahead_of_the_thing(self):
        for value in ODD + (((0, 1), (0, 1)), ((0, 2), (0, 1)), [(0, 1)]):
            if not outright.is_ties(LIST, value):
                self.assertEqual(refused(round_of, LIST, value), ("NotUsable", "ties", -1), value)
                self.assertEqual(refused(lets_round, LIST, value, None), ("NotUsable", "ties", -1), value)


if __name__ == "__main__":
    unittest.main()
