"""[41], [42]: Merge objects."""
import random
import unittest

import outright
from outright import GAP, LIST, LOOP, ODD, PAIR, SMALL, refused, same
from listbylist.listmerges import list_orders
from listbylist.mergeclasses import Merge
from listbylist.merging import greatest_common, least_common
from listbylist.whyrows import why_turned

ROUND = ((0, 1), (1, 2))


class Merges(unittest.TestCase):
    def test_as_the_functions(self):
        draw = random.Random(71)
        for book in SMALL:
            for some in outright.draw_tuples(draw, book, 3):
                merge = Merge(book, *some)
                self.assertTrue(same(merge.told(), (book, some)))
                self.assertEqual(refused(merge.least), refused(least_common, book, some))
                self.assertEqual(refused(merge.greatest), refused(greatest_common, book, some))
                self.assertEqual(merge.orders(), list_orders(book, some))
                for tie in outright.ties(book):
                    self.assertEqual(merge.why(tie), why_turned(book, some, tie))
                self.assertTrue(same(merge.told(), (book, some)))

    def test_none(self):
        merge = Merge(LIST)
        self.assertEqual((merge.least(), merge.greatest()), ((), outright.ties(LIST)))
        self.assertEqual((merge.orders(), merge.told()), (((0, 1, 2),), (LIST, ())))

    def test_errors(self):
        merge = Merge(LOOP, ((0, 2),), ((1, 3),))
        outcome = refused(merge.least)
        self.assertEqual((outcome[0], sorted(outcome[1])), ("InRound", [0, 1, 2, 3]))
        for tie in ODD + ((0, 1), (2, 3), ((0, 2),)):
            self.assertEqual(refused(merge.why, tie), ("NotUsable", "tie", -1), tie)
        self.assertIsNone(merge.why((0, 3)))
        self.assertEqual(merge.why(tie=(0, 2)), (0, 2))

    def test_wrong_inputs(self):
        for book in ODD + ((0, ()), [3, ()], (3, ((0, 1, 1),)), (3, ((0, True),)), (True, ())):
            if not outright.is_book(book):
                self.assertEqual(refused(Merge, book, None), ("NotUsable", "book", -1), book)
        for value in ODD + (ROUND, [], ((0, 3),)):
            if not outright.is_sorting(LIST, value):
                self.assertEqual(refused(Merge, LIST, value), ("NotUsable", "sortings", -1), value)
                self.assertEqual(refused(Merge, LIST, (), value), ("NotUsable", "sortings", -1), value)
                self.assertEqual(refused(Merge(LIST).grown, value), ("NotUsable", "sorting", -1), value)
        self.assertEqual(refused(lambda: Merge(book=None)), ("NotUsable", "book", -1))

    def test_grown(self):
        merge = Merge(LIST, ((0, 1),))
        grown = merge.grown(sorting=((1, 2),))
        self.assertIsInstance(grown, Merge)
        self.assertEqual(grown.told(), (LIST, (((0, 1),), ((1, 2),))))
        self.assertEqual(grown.grown(((0, 1),)).told()[1], (((0, 1),), ((1, 2),), ((0, 1),)))
        self.assertEqual(merge.told(), (LIST, (((0, 1),),)))
        self.assertEqual(grown.least(), outright.ties(LIST))

    def test_equal(self):
        one, two, three = ((0, 1),), ((1, 2),), ()
        merge = Merge(LIST, one, two)
        for some in ((two, one), (one, two, one), (two, two, one, one)):
            self.assertTrue(merge == Merge(LIST, *some))
            self.assertTrue(Merge(LIST, *some) == merge)
            self.assertFalse(merge != Merge(LIST, *some))
        for some in ((), (one,), (two,), (one, two, three), (one, three)):
            self.assertFalse(merge == Merge(LIST, *some))
            self.assertFalse(Merge(LIST, *some) == merge)
        self.assertTrue(Merge(LIST) == Merge(LIST))
        self.assertFalse(Merge(LIST, ()) == Merge(LIST))
        for book in ((3, ((0, 1, 2), (0, 1))), (3, ((0, 1), (0, 2), (1, 2))), (4, ((0, 1, 2),)), PAIR, GAP):
            self.assertFalse(merge == Merge(book, one, two))
        for value in (None, 1, (LIST, (one, two)), merge.told(), "merge", [merge]):
            self.assertFalse(merge == value)
            self.assertTrue(merge != value)


if __name__ == "__main__":
    unittest.main()
