"""[8], [43] to [46], [52]: ropes, which sortings show them, the least one and the greatest one that rises."""
import random
import unittest

import outright
from outright import FIVE, JOINTED, LIST, ODD, PAIR, THREE, changes, refused, same
from listbylist.ropekinds import behind_of, is_rope, is_ropes, middle_of
from listbylist.ropelists import rope_count, ropes_of
from listbylist.showing import rope_at, shows
from listbylist.showings import beneath_showing, greatest_rising, least_showing

WIDE = outright.band_book(40, 6)


class Kinds(unittest.TestCase):
    def test_examples(self):
        self.assertIs(is_rope(LIST, (0, 2, (1,))), True)
        self.assertIs(is_rope(LIST, (0, 1, (2,))), False)
        self.assertIs(is_ropes(LIST, ()), True)
        self.assertIs(is_ropes(LIST, ((0, 1, ()), (0, 2, (1,)))), True)
        self.assertIs(is_ropes(LIST, ((0, 2, (1,)), (0, 1, ()))), False)
        self.assertIs(is_ropes(LIST, ((0, 1, ()), (0, 1, ()))), False)

    def values(self, book):
        yield from ODD
        for rope in outright.ropes(book):
            yield rope
            yield from changes(rope)
            yield from outright.rebooled(rope)
            yield (*rope[:2], rope[2][::-1])
            yield (*rope[:2], rope[2] + rope[:1])
            yield (*rope[:2], rope[2] + rope[2])

    def test_is_rope(self):
        for book in (LIST, PAIR, THREE, (2, ((0, 1),)), (3, ()), (4, ((0, 1, 2, 3),))):
            for value in self.values(book):
                self.assertIs(is_rope(book, value), outright.is_rope(book, value), (book, value))
        for value in ((0, 2, [1]), [0, 2, (1,)], (0, 2, (True,)), (False, 2, ()), (0, 2, (1, 1)), (2, 0, ()), (0, 2),
                      (0, 2, (), ()), (0, 2, (0,)), (0, 2, (3,)), (0, 3, ()), (0, 0, ()), (0, 2, 1), (0, 2, None)):
            self.assertIs(is_rope(LIST, value), False, value)

    def test_is_ropes(self):
        draw = random.Random(81)
        for book in (LIST, PAIR, THREE, (3, ())):
            every = tuple(outright.ropes(book))
            values = [every, list(every), every[::-1], every + every] + list(ODD) + list(changes(every))
            values += [tuple(draw.sample(every, draw.randrange(len(every) + 1))) for _ in range(60)]
            for value in values + list(outright.rebooled(every)):
                self.assertIs(is_ropes(book, value), outright.is_ropes(book, value), (book, value))

    def test_behind_and_middle(self):
        for book in JOINTED:
            for rope in outright.ropes(book):
                self.assertTrue(same(behind_of(book, rope), outright.behind(book, rope)))
                self.assertTrue(same(middle_of(book, rope), outright.between(book, rope[:2])))
        self.assertEqual((behind_of(FIVE, (0, 4, (2,))), middle_of(FIVE, (0, 4, (2,)))), ((1, 3), (1, 2, 3)))


class Ropes(unittest.TestCase):
    def test_examples(self):
        self.assertEqual(ropes_of(LIST), ((0, 1, ()), (0, 2, ()), (0, 2, (1,)), (1, 2, ())))
        self.assertEqual(ropes_of(THREE), ropes_of(LIST))
        self.assertEqual(rope_count(PAIR), 7)
        for book in ((1, ()), (4, ())):
            self.assertEqual((ropes_of(book), rope_count(book)), ((), 0))

    def test_over_all_lots(self):
        for book in JOINTED + (FIVE,):
            wanted = tuple(outright.ropes(book))
            self.assertTrue(same(ropes_of(book), wanted))
            self.assertTrue(same(rope_count(book), len(wanted)))

    def test_up_to_the_limit(self):
        book = outright.band_book(10, 6)
        self.assertEqual(ropes_of(book), tuple(outright.ropes(book)))
        self.assertEqual(rope_count(book), len(outright.ropes(book)))
        self.assertEqual(rope_count((6, (tuple(range(6)),))), 57)

    def test_wide(self):
        self.assertEqual(rope_count(WIDE), sum((40 - apart) * 2 ** (apart - 1) for apart in range(1, 6)))
        self.assertEqual(rope_count((40, tuple((x, x + 1) for x in range(39)))), 39)
        self.assertEqual(rope_count((40, ())), 0)


class Showing(unittest.TestCase):
    def test_examples(self):
        self.assertEqual(rope_at(LIST, ((0, 1), (0, 2)), (0, 2)), (0, 2, (1,)))
        self.assertIsNone(rope_at(LIST, ((0, 1), (0, 2)), (1, 2)))
        self.assertIsNone(rope_at(LIST, outright.ties(LIST), (0, 2)))
        self.assertIs(shows(LIST, ((0, 2), (1, 2)), (0, 2, ())), True)
        self.assertIs(shows(LIST, ((0, 2), (1, 2)), (0, 2, (1,))), False)

    def test_a_tie_that_is_no_fall(self):
        """Shown, though a way of ties leads from the high to the low."""
        met = 0
        for book in JOINTED:
            for turned in outright.sortings(book):
                for rope in outright.ropes(book):
                    if outright.shows(book, turned, rope) and rope[:2] not in outright.falls(book, turned):
                        met += 1
                        self.assertIs(shows(book, turned, rope), True)
                        self.assertEqual(rope_at(book, turned, rope[:2]), rope)
        self.assertGreater(met, 100)

    def test_by_the_words(self):
        for book in JOINTED + (FIVE,):
            ropes = outright.ropes(book)
            found = outright.sortings(book)
            for sorting in found[::1 + len(found) // 60]:
                shown = [rope for rope in ropes if outright.shows(book, sorting, rope)]
                for rope in ropes:
                    self.assertIs(shows(book, sorting, rope), rope in shown)
                for tie in outright.ties(book):
                    wanted = [rope for rope in shown if rope[:2] == tie]
                    self.assertLess(len(wanted), 2)
                    self.assertTrue(same(rope_at(book, sorting, tie), wanted[0] if wanted else None))


class Least(unittest.TestCase):
    def test_examples(self):
        self.assertEqual(least_showing(LIST, (0, 2, (1,))), ((0, 1), (0, 2)))
        self.assertEqual(beneath_showing(LIST, (0, 2, (1,))), ((0, 1),))
        self.assertEqual(greatest_rising(LIST, (0, 2, ())), ((1, 2),))

    def test_over_all_sortings(self):
        for book in JOINTED + (FIVE,):
            found = outright.sortings(book)
            for rope in outright.ropes(book):
                showing = [set(one) for one in found if outright.shows(book, one, rope)]
                least = least_showing(book, rope)
                self.assertIn(set(least), showing)
                self.assertTrue(all(set(least) <= one for one in showing))
                rising = [set(one) for one in found if outright.rises_by(book, one, rope)]
                greatest = greatest_rising(book, rope)
                self.assertIn(set(greatest), rising)
                self.assertTrue(all(set(greatest) >= one for one in rising))
                beneath = beneath_showing(book, rope)
                for one in (least, greatest, beneath):
                    self.assertTrue(same(one, tuple(sorted(one))))
                self.assertEqual(set(least) - set(beneath), {rope[:2]})

    def test_by_the_ties(self):
        """[46]: which ties these turn, as the point tells them."""
        for book in JOINTED + (FIVE, outright.band_book(10, 4)):
            ties = outright.ties(book)
            for low, high, front in outright.ropes(book):
                rope, back = (low, high, front), outright.behind(book, (low, high, front))
                wanted = tuple(tie for tie in ties if tie[0] in (low, *back) and tie[1] in (high, *front))
                self.assertEqual(least_showing(book, rope), wanted)
                self.assertEqual(beneath_showing(book, rope), tuple(tie for tie in wanted if tie != (low, high)))
                kept = [tie for tie in ties if tie[0] in (low, *front) and tie[1] in (high, *back)]
                self.assertEqual(greatest_rising(book, rope), tuple(tie for tie in ties if tie not in kept))

    def test_consequences(self):
        """[52]: the tie is the only fall of the one, the only rise of the other; what is beneath the least one."""
        for book in JOINTED + (FIVE,):
            found = outright.sortings(book)
            for rope in outright.ropes(book):
                least, beneath = least_showing(book, rope), beneath_showing(book, rope)
                self.assertEqual(outright.falls(book, least), [rope[:2]])
                self.assertEqual(outright.rises(book, greatest_rising(book, rope)), [rope[:2]])
                self.assertIn(beneath, found)
                for one in found:
                    if set(one) < set(least):
                        self.assertLessEqual(set(one), set(beneath))


class Wrong(unittest.TestCase):
    def test_first_refused(self):
        rope = (0, 2, (1,))
        wrong = [(0, 2, [1]), (0, 2, (True,)), (False, 2, ()), [0, 2, ()], (0, 2), None, "rope", (0, 3, ()), (0, 1, (2,))]
        for value in wrong:
            for call in (behind_of, middle_of, least_showing, beneath_showing, greatest_rising):
                self.assertEqual(refused(call, LIST, value), ("NotUsable", "rope", -1), (call, value))
                self.assertEqual(refused(lambda: call(rope=value, book=LIST)), ("NotUsable", "rope", -1))
            self.assertEqual(refused(shows, LIST, (), value), ("NotUsable", "rope", -1), value)
        for value in (None, [()], ((0, 1), (1, 2)), ((False, 1),), [], ((0, 3),)):
            self.assertEqual(refused(shows, LIST, value, None), ("NotUsable", "sorting", -1), value)
            self.assertEqual(refused(rope_at, LIST, value, None), ("NotUsable", "sorting", -1), value)
        for value in ((0, 3), (1, 0), [0, 1], (False, 1), None, rope):
            self.assertEqual(refused(rope_at, LIST, (), value), ("NotUsable", "tie", -1), value)


if __name__ == "__main__":
    unittest.main()
