"""[11] (G8), (G11), [12], [81]: which sortings may be made the base; Glue objects."""
import random
import unittest
from itertools import permutations

import outright
from outright import FIVE, GAP, JOINTED, LIST, LOOP, ODD, PAIR, changes, refused, same, told
from listbylist.bases import base_gap, is_base, lets_base_gap
from listbylist.bookchanges import rebased
from listbylist.endcounts import ends_count
from listbylist.glueclasses import Glue
from listbylist.joints import is_jointed, lets_joint
from listbylist.listends import end_by_lists, list_ends
from listbylist.numbers import number_of, sorting_count
from listbylist.sortlines import line_of
from test_listends import BAND, CHAIN, PLAIN, STAR, grown_jointed, order_in
from test_viewmerges import LARGE


def gaps(book, turned):
    """All (place, other, inner) by the words."""
    lists = outright.full(book)
    found = []
    for place, other in permutations(range(len(lists)), 2):
        order = order_in(turned, lists[place])
        spots = [k for k, x in enumerate(order) if x in lists[other]]
        found += [(place, other, order[k]) for k in range(len(order)) if k not in spots and spots and spots[0] < k < spots[-1]]
    return found


def check_gap(book, turned, value):
    """What lets_base_gap gives by its words."""
    lists = outright.full(book)
    if type(value) is not tuple or len(value) != 3:
        return told("shape", -1)
    place, other, inner = value
    if not outright.is_below(len(lists), place):
        return told("place", 0)
    if not outright.is_below(len(lists), other) or other == place:
        return told("place", 1)
    if not outright.is_int(inner) or inner not in lists[place] or inner in lists[other]:
        return told("inner", -1)
    return ("gives", inner) if value in gaps(book, turned) else told("between", -1)


class Bases(unittest.TestCase):
    def test_examples(self):
        self.assertEqual(base_gap(PAIR, ((0, 1),)), (0, 1, 0))

    def test_by_the_orders(self):
        """Also (G11): whether the book, numbered anew along a line that fits, is well jointed."""
        met = set()
        for book in JOINTED + (FIVE,):
            found = outright.sortings(book)
            for one in found[::1 + len(found) // 40]:
                every = gaps(book, one)
                met.add(not every)
                self.assertIs(is_base(book, one), not every)
                paper = base_gap(book, one)
                if not every:
                    self.assertIsNone(paper)
                else:
                    self.assertIn(paper, every)
                    self.assertTrue(same(refused(lets_base_gap, book, one, paper), ("gives", paper[2])))
                self.assertIs(is_base(book, one), is_jointed(rebased(book, line_of(book, one))))
                last = [line for line in permutations(range(book[0])) if outright.fits(book, one, line)][-1]
                self.assertIs(is_base(book, one), outright.jointed(rebased(book, last)))
        self.assertEqual(met, {True, False})

    def test_more_things(self):
        draw = random.Random(311)
        for book in LARGE + (outright.band_book(10, 6),):
            for _ in range(10):
                line = draw.sample(range(10), 10)
                one = outright.by_line(book, line)
                self.assertIs(is_base(book, one), is_jointed(rebased(book, tuple(line))))
            self.assertEqual((is_base(book, ()), is_base(book, outright.ties(book))), (True, True))

    def test_papers_changed(self):
        draw = random.Random(312)
        met = set()
        for book in (LIST, PAIR, (5, ((0, 1, 2), (2, 3, 4))), (5, ((0, 1, 2, 3), (1, 2, 3, 4))), (6, ((0, 3), (1, 3), (2, 3), (3, 4), (3, 5)))):
            found = outright.sortings(book)
            for one in draw.sample(found, min(8, len(found))):
                paper = base_gap(book, one) or (0, 1, 0)
                values = list(changes(paper)) + list(outright.rebooled(paper)) + [paper, list(paper)] + list(ODD)
                values += [(x, y, z) for x in range(-1, 3) for y in range(3) for z in range(5)]
                for value in values:
                    wanted = check_gap(book, one, value)
                    met.add(wanted[1:] if wanted[0] == "InvalidPaper" else "gives")
                    self.assertTrue(same(refused(lets_base_gap, book, one, value), wanted), (book, one, value))
        self.assertEqual(met, {
            ("shape", -1), ("place", 0), ("place", 1), ("inner", -1), ("between", -1), "gives"})

    def test_first_that_applies(self):
        for value, word, at in (
            (None, "shape", -1), ((0, 1), "shape", -1), ([0, 1, 0], "shape", -1), ((None, None, None), "place", 0),
            ((2, 2, 2), "place", 0), ((False, 1, 0), "place", 0), ((0, 0, 9), "place", 1), ((0, True, 9), "place", 1),
            ((0, 2, 0), "place", 1), ((0, 1, 3), "inner", -1), ((0, 1, 1), "inner", -1), ((0, 1, False), "inner", -1),
            ((0, 1, "0"), "inner", -1), ((1, 0, 3), "between", -1),
        ):
            self.assertEqual(refused(lets_base_gap, PAIR, ((0, 1),), value), told(word, at), value)
        self.assertEqual(refused(lets_base_gap, PAIR, (), (0, 1, 0)), told("between", -1))
        for value in ODD + (((0, 1), (1, 2)), []):
            if not outright.is_sorting(PAIR, value):
                for call in (is_base, base_gap, lambda *given: lets_base_gap(*given, None)):
                    self.assertEqual(refused(call, PAIR, value), ("NotUsable", "sorting", -1), value)


class Glues(unittest.TestCase):
    def test_as_the_functions(self):
        draw = random.Random(313)
        for book in JOINTED + (FIVE, BAND, STAR, CHAIN, grown_jointed(draw)):
            one = outright.by_line(book, draw.sample(range(book[0]), book[0]))
            for pattern in PLAIN[::2]:
                glue = Glue(book, pattern)
                self.assertTrue(same(glue.told(), (book, pattern)))
                self.assertTrue(same(glue.total(), ends_count(book, pattern)))
                self.assertTrue(same(glue.ends(0), list_ends(book, 0, pattern)))
                self.assertTrue(same(glue.last(one), end_by_lists(book, one, pattern)))
                self.assertTrue(same(glue.number(sorting=one), number_of(book, one)))
                self.assertTrue(same(glue.told(), (book, pattern)))
        self.assertEqual(Glue(BAND, ("none",)).total(), sorting_count(BAND))

    def test_equal(self):
        one = Glue(PAIR, ("ahead", 1))
        self.assertTrue(one == Glue(pattern=("ahead", 1), book=(4, ((0, 1, 2), (1, 2, 3)))))
        self.assertFalse(one != Glue(PAIR, ("ahead", 1)))
        for other in (
            Glue(PAIR, ("both", ("ahead", 1), ("all",))), Glue(PAIR, ("ahead", 2)), Glue(LIST, ("ahead", 1)), None, one.told(),
            Glue((4, ((1, 2, 3), (0, 1, 2))), ("ahead", 1)), 1, "one", (PAIR, ("ahead", 1)), ("ahead", 1),
        ):
            self.assertFalse(one == other)
            self.assertTrue(one != other)

    def test_wrong_inputs(self):
        for book in ODD + ([3, ()], (0, ()), (3, ((0, True, 2),)), (3, [(0, 1)])):
            if not outright.is_book(book):
                self.assertEqual(refused(Glue, book, None), ("NotUsable", "book", -1), book)
        for book in (GAP, LOOP, outright.ring_book(6), (40, ((0, 10, 39), (0, 20, 39)))):
            for pattern in (("all",), None):
                outcome = refused(Glue, book, pattern)
                self.assertEqual(outcome[0], "Unjointed", book)
                self.assertIn(lets_joint(book, outcome[1]), ("ring", "gap"))
        for pattern in ODD + (("all", 1), ["all"], ("amid", True), ("ropes", ()), ("above", ()), ("not", ("all",)),
                              ("both", ("all",), ("either", ("none",), ("not", ("none",))))):
            self.assertEqual(refused(Glue, LIST, pattern), ("NotUsable", "pattern", -1), pattern)
        glue = Glue(PAIR, ("ahead", 1))
        for place in ODD + (2, -1):
            self.assertEqual(refused(glue.ends, place), ("NotUsable", "place", -1), place)
        for value in ODD + (((0, 1), (1, 2)), [], ((False, 1),)):
            if not outright.is_sorting(PAIR, value):
                self.assertEqual(refused(glue.last, value), ("NotUsable", "sorting", -1), value)
                self.assertEqual(refused(glue.number, value), ("NotUsable", "sorting", -1), value)


if __name__ == "__main__":
    unittest.main()
