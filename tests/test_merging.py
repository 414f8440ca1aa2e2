"""[7], [11] (G2, G3), [33] to [36], [42]: closures, merges, rows that show why, merges list by list."""
import random
import unittest
from itertools import combinations

import outright
from outright import (
    GAP, LIST, LOOP, ODD, PAIR, SMALL, THREE, changes, draw_tuples, greatest_beneath, least_above, merged_alone, refused,
    row_ties, same, steps_of, told, told_by)
from listbylist.closures import closure_of
from listbylist.joints import is_jointed, own_hole
from listbylist.leasts import has_least
from listbylist.listmerges import fits_lists, fits_own, list_order, list_orders, merged_by_lists, own_merges
from listbylist.listorders import orders_of, own_orders
from listbylist.merging import greatest_common, least_common
from listbylist.sortturns import turned_over
from listbylist.whychecker import lets_kept, lets_turned
from listbylist.whyrows import why_kept, why_turned

DRAWN = outright.drawn_books(8, 6, 21)


class Closures(unittest.TestCase):
    def test_example(self):
        self.assertEqual(closure_of(PAIR, ((0, 1), (1, 2), (2, 3))), ((0, 1), (0, 2), (1, 2), (1, 3), (2, 3)))
        self.assertEqual(closure_of(LIST, ()), ())

    def test_by_all_rows(self):
        for book in SMALL:
            lots = list(outright.lots(outright.ties(book)))
            for lot in lots[::max(1, len(lots) // 150)]:
                self.assertTrue(same(closure_of(book, lot), row_ties(book, lot)))

    def test_ten_things(self):
        book = (10, tuple((x, x + 1) for x in range(9)) + ((0, 9), (2, 7)))
        steps = tuple((x, x + 1) for x in range(9))
        self.assertEqual(closure_of(book, steps), outright.ties(book))
        self.assertEqual(closure_of(book, steps[1:]), steps[1:2] + ((2, 3), (2, 7)) + steps[3:])


class Merges(unittest.TestCase):
    def test_examples(self):
        self.assertEqual(least_common(LIST, (((0, 1),), ((1, 2),))), ((0, 1), (0, 2), (1, 2)))
        self.assertEqual(greatest_common(LIST, (((0, 1), (0, 2)), ((0, 2), (1, 2)))), ())
        outcome = refused(least_common, LOOP, (((0, 2),), ((1, 3),)))
        self.assertEqual(outcome[0], "InRound")
        things = outcome[1]
        self.assertEqual(things[things.index(0):] + things[:things.index(0)], (0, 3, 1, 2))

    def test_none_one_and_twice(self):
        for book in SMALL:
            every = outright.ties(book)
            self.assertEqual((least_common(book, ()), greatest_common(book, ())), ((), every))
            for sorting in outright.sortings(book)[::5]:
                for some in ((sorting,), (sorting, sorting)):
                    self.assertTrue(same(least_common(book, some), sorting))
                    self.assertTrue(same(greatest_common(book, some), sorting))

    def test_among_all_sortings(self):
        draw = random.Random(31)
        outcomes = set()
        for book in SMALL + DRAWN:
            if len(outright.ties(book)) > 9:
                continue
            for some in draw_tuples(draw, book, 8):
                turned = set().union(*some)
                least, outcome = least_above(book, some), refused(least_common, book, some)
                outcomes.add(least is None)
                if least is not None:
                    self.assertTrue(same(outcome, ("gives", least)), (book, some))
                else:
                    self.assertEqual(outcome[0], "InRound")
                    self.assertTrue(outright.is_round(book, row_ties(book, turned), outcome[1]))
                kept = [tie for tie in outright.ties(book) if any(tie not in one for one in some)]
                ties = tuple(tie for tie in outright.ties(book) if tie not in row_ties(book, kept))
                greatest, outcome = greatest_beneath(book, some), refused(greatest_common, book, some)
                if greatest is not None:
                    self.assertTrue(same(outcome, ("gives", greatest)), (book, some))
                else:
                    self.assertEqual(outcome[0], "InRound")
                    self.assertTrue(outright.is_round(book, ties, outcome[1]))
        self.assertEqual(outcomes, {True, False})

    def test_every_two(self):
        """(G2): every two sortings have both exactly if has_least."""
        for book in SMALL:
            found = outright.sortings(book)
            if len(found) > 40:
                continue
            pairs = list(combinations(found, 2))
            least = all(refused(least_common, book, pair)[0] == "gives" for pair in pairs)
            greatest = all(refused(greatest_common, book, pair)[0] == "gives" for pair in pairs)
            self.assertEqual((least, greatest), (has_least(book),) * 2, book)

    def test_consequences(self):
        """[42]: what may be left out, and turned over."""
        draw = random.Random(32)
        for book in SMALL:
            found = outright.sortings(book)
            for some in draw_tuples(draw, book, 4):
                least, greatest = refused(least_common, book, some), refused(greatest_common, book, some)
                over = refused(least_common, book, tuple(turned_over(book, one) for one in some))
                self.assertEqual(greatest[0] == "gives", over[0] == "gives")
                if over[0] == "gives":
                    self.assertEqual(greatest[1], turned_over(book, over[1]))
                for one in some[:1]:
                    lower = draw.choice([other for other in found if set(other) <= set(one)])
                    upper = draw.choice([other for other in found if set(other) >= set(one)])
                    self.assertEqual(refused(least_common, book, some + (lower,))[0], least[0])
                    self.assertEqual(refused(greatest_common, book, some + (upper,))[0], greatest[0])
                    if least[0] == "gives":
                        self.assertEqual(least_common(book, some + (lower,)), least[1])
                    if greatest[0] == "gives":
                        self.assertEqual(greatest_common(book, (upper,) + some), greatest[1])
                    self.assertEqual(list_orders(book, some + (lower,)), list_orders(book, some))
                    self.assertEqual(own_merges(book, (lower,) + some), own_merges(book, some))


def check_why(book, some, tie, value, turned):
    """What lets_turned or lets_kept gives by its words."""
    if not outright.is_row(book, value) or (value[0], value[-1]) != tie:
        return told("shape", -1)
    places = []
    for k, step in enumerate(steps_of(value)):
        found = [place for place, one in enumerate(some) if (step in one) == turned]
        if not found:
            return told("step", k)
        places.append(found[0])
    return ("gives", tuple(places))


class Why(unittest.TestCase):
    def test_examples(self):
        both = (((0, 1),), ((1, 2),))
        self.assertEqual(lets_turned(LIST, both, (0, 2), (0, 1, 2)), (0, 1))
        self.assertEqual(why_turned(LIST, both, (0, 2)), (0, 1, 2))
        both = (((0, 1), (0, 2)), ((0, 2), (1, 2)))
        self.assertEqual(lets_kept(LIST, both, (0, 2), (0, 1, 2)), (1, 0))
        self.assertEqual(why_kept(LIST, both, (0, 2)), (0, 1, 2))

    def test_by_all_rows(self):
        draw = random.Random(33)
        for book in SMALL + DRAWN[:3]:
            if len(outright.ties(book)) > 9:
                continue
            for some in draw_tuples(draw, book, 4):
                for tie in outright.ties(book):
                    rows = outright.rows(book, *tie)
                    self.hold(book, some, tie, rows, (why_turned, lets_turned, True))
                    self.hold(book, some, tie, rows, (why_kept, lets_kept, False))

    def hold(self, book, some, tie, rows, asked):
        why, lets, turned = asked
        row = why(book, some, tie)
        good = [value for value in rows if check_why(book, some, tie, value, turned)[0] == "gives"]
        if row is None:
            self.assertEqual(good, [])
        else:
            self.assertIn(row, good)
            self.assertTrue(same(row, tuple(row)))
        values = rows + list(ODD)[::5] + (list(changes(row)) if row and len(row) > 2 else [])
        for value in values:
            wanted = check_why(book, some, tie, value, turned)
            self.assertTrue(same(refused(lets, book, some, tie, value), wanted), (book, some, tie, value))

    def test_with_the_merges(self):
        """[42]: rows are there exactly for what the closures hold."""
        draw = random.Random(34)
        for book in SMALL:
            for some in draw_tuples(draw, book, 3):
                turned = closure_of(book, tuple(sorted(set().union(*some))))
                greatest = refused(greatest_common, book, some)
                for tie in outright.ties(book):
                    self.assertIs(why_turned(book, some, tie) is not None, tie in turned)
                    if greatest[0] == "gives":
                        self.assertIs(why_kept(book, some, tie) is None, tie in greatest[1])

    def test_no_sortings(self):
        for tie in outright.ties(PAIR):
            self.assertIsNone(why_turned(PAIR, (), tie))
            self.assertIsNone(why_kept(PAIR, (), tie))
            self.assertEqual(refused(lets_turned, PAIR, (), tie, tie), told("step", 0))
            self.assertEqual(refused(lets_kept, PAIR, (), tie, tie), told("step", 0))

    def test_first_that_applies(self):
        some = (((0, 1),), ((0, 1),))
        for value, word, at in (
            (None, "shape", -1), ((0, 1), "shape", -1), ([0, 1, 2], "shape", -1), ((0, True, 2), "shape", -1),
            ((2, 1, 0), "shape", -1), ((0, 2), "step", 0), ((0, 1, 2), "step", 1),
        ):
            self.assertEqual(refused(lets_turned, LIST, some, (0, 2), value), told(word, at), value)
        self.assertEqual(refused(lets_kept, LIST, some, (0, 2), (0, 1, 2)), told("step", 0))
        self.assertEqual(refused(lets_turned, (4, ((0, 1, 2), (2, 3), (0, 3))), some, (0, 3), (0, 1, 3)),
                         told("shape", -1))


class ListByList(unittest.TestCase):
    def test_examples(self):
        self.assertEqual(list_orders(THREE, (((0, 1),), ((1, 2),))), ((2, 1, 0),))
        self.assertEqual(own_merges(THREE, (((0, 1),), ((1, 2),))), ((1, 0), (0, 2), (2, 1)))
        self.assertIs(fits_own(THREE, (((0, 1),), ((1, 2),))), False)
        self.assertIs(fits_lists(THREE, (((0, 1),), ((1, 2),))), True)
        self.assertEqual(refused(merged_by_lists, GAP, (((0, 1),), ((1, 2),))), ("Quarrel", (0, 2)))
        outcome = refused(merged_by_lists, LOOP, (((0, 2),), ((1, 3),)))
        self.assertEqual(outcome[0], "InRound")
        self.assertEqual(sorted(outcome[1]), [0, 1, 2, 3])

    def test_by_the_words(self):
        draw = random.Random(35)
        outcomes = set()
        for book in SMALL + DRAWN:
            if len(outright.ties(book)) > 9:
                continue
            lists = outright.full(book)
            for some in draw_tuples(draw, book, 10):
                orders = tuple(merged_alone(book, things, some) for things in lists)
                self.assertTrue(same(list_orders(book, some), orders))
                for place in range(len(lists)):
                    self.assertTrue(same(list_order(book, place, some), orders[place]))
                wanted, outcome = told_by(book, orders), refused(merged_by_lists, book, some)
                outcomes.add(wanted[0])
                self.assertIs(fits_lists(book, some), wanted[0] == "gives")
                self.assertEqual(outcome[:len(wanted)], wanted)
                if wanted[0] == "gives":
                    self.assertEqual(wanted[1], least_common(book, some))
                if wanted[0] == "InRound":
                    turned = [tie for tie in outright.ties(book) if any(
                        tie[0] in x and tie[1] in x and x.index(tie[1]) < x.index(tie[0]) for x in orders)]
                    self.assertTrue(outright.is_round(book, turned, outcome[1]))
                own = tuple(merged_alone(book, things, some) for things in book[1])
                self.assertTrue(same(own_merges(book, some), own))
                fits = told_by(book, own)[0] == "gives"
                self.assertIs(fits_own(book, some), fits)
                if fits:
                    self.assertEqual(own, own_orders(book, least_common(book, some)))
        self.assertEqual(outcomes, {"gives", "Quarrel", "InRound"})

    def test_every_two(self):
        """(G3): list by list for every two sortings exactly if well jointed; own lists if none has a hole."""
        for book in SMALL:
            found = outright.sortings(book)
            if len(found) > 40:
                continue
            pairs = list(combinations(found, 2))
            fits = all(fits_lists(book, pair) for pair in pairs)
            self.assertIs(fits, is_jointed(book), book)
            own = all(fits_own(book, pair) for pair in pairs)
            self.assertIs(own, is_jointed(book) and own_hole(book) is None, book)

    def test_all_at_once(self):
        """[42]: in a well jointed book list by list fits all sortings, however many."""
        for book in SMALL:
            if is_jointed(book):
                found = tuple(outright.sortings(book))
                self.assertIs(fits_lists(book, found), True)
                self.assertEqual(merged_by_lists(book, found[:8]), least_common(book, found[:8]))
                self.assertEqual(list_orders(book, found), orders_of(book, outright.ties(book)))

    def test_no_sortings(self):
        for book in SMALL:
            self.assertEqual(list_orders(book, ()), outright.full(book))
            self.assertEqual(own_merges(book, ()), book[1])
            self.assertEqual(merged_by_lists(book, ()), ())

    def test_first_refused(self):
        for place in (1, -1, True, False, None, "0", (0,), 10 ** 40):
            self.assertEqual(refused(list_order, LIST, place, None), ("NotUsable", "place", -1))
        self.assertEqual(refused(list_order, LIST, 0, [()]), ("NotUsable", "sortings", -1))
        self.assertEqual(list_order((3, ()), 2, ((),)), (2,))


if __name__ == "__main__":
    unittest.main()
