"""[6], [7], [11] (G2), [39], [40], [42]: pairs without a least common one, sortings between."""
import random
import unittest
from itertools import combinations, product

import outright
from outright import GAP, LIST, LOOP, ODD, PAIR, SMALL, changes, refused, same, told
from listbylist.leasts import has_least
from listbylist.merging import least_common
from listbylist.noleasts import lets_unmerged, unmerged_pair, unmerged_paper
from listbylist.spans import agreed_ties, between_sortings
from listbylist.tried import greatest_ones, least_ones

ONE = ((0, 2), (1, 2), (1, 3))
TWO = ((0, 2), (0, 3), (1, 3))
TOWERS = ((0, 2),), ((1, 3),)
ROUND = ((0, 1), (1, 2))
RINGS = (
    (6, ((0, 3), (1, 3), (1, 4), (2, 4), (2, 5), (0, 5))),
    (7, ((0, 4), (4, 6), (2, 6), (2, 3), (1, 3), (1, 5), (0, 5))),
    (8, ((0, 1), (1, 7), (2, 7), (2, 3), (3, 4), (4, 6), (5, 6), (0, 5))),
)
# Books with a ring along which two ties or more fall, and as many rise; things off it in some.
LARGE = (
    ((0, 5, 1, 6, 2, 7, 3, 8), (10, ((0, 5), (1, 6), (2, 7), (3, 8), (1, 5), (2, 6, 9), (3, 7), (0, 4, 8)))),
    ((0, 2, 9, 7, 6, 3), (10, ((0, 1, 2), (2, 5, 9), (7, 9), (6, 7), (3, 4, 6), (0, 3), (1, 4, 8), (5, 8)))),
    ((0, 4, 9, 3), (10, ((0, 1, 2, 3), (0, 1, 4, 5), (4, 8, 9), (3, 6, 9), (6, 7, 8), (2, 7)))),
    ((4, 7, 5, 9, 1), (10, ((1, 2, 3, 4), (4, 6, 7), (5, 6, 7), (5, 8, 9), (0, 1, 9), (0, 2, 8)))),
    ((0, 1, 3, 9, 6, 2), (10, ((0, 1), (1, 3), (3, 8, 9), (0, 2), (2, 6), (6, 7, 9), (0, 9), (4, 5, 8)))),
)
# Two rows with the same tied ends, of three things, of three and four, of four and five.
ROWS = (
    (4, ((0, 1, 3), (0, 2, 3))),
    (5, ((0, 1), (1, 2), (2, 4), (0, 3, 4))),
    (7, ((0, 1), (1, 3), (3, 6), (0, 2), (2, 4), (4, 5), (5, 6), (0, 6))),
)
DRAWN = outright.drawn_books(6, 6, 62)


def leads_for(book, beneath, above, x, y):
    """A step of the ring by the words of [39]."""
    if not outright.tied(book, x, y):
        return False
    if x > y:
        return any((y, x) in one for one in beneath)
    return any((x, y) not in one for one in above)


def check_unmerged(book, sorting, other, value):
    """What lets_unmerged gives by its words."""
    if type(value) is not tuple or len(value) != 3:
        return told("shape", -1)
    for k in (0, 1):
        if not outright.is_sorting(book, value[k]):
            return told("sorting", k)
        if not set(sorting) | set(other) <= set(value[k]):
            return told("above", k)
    ring = value[2]
    if (
        type(ring) is not tuple or len(ring) < 3 or not all(outright.is_below(book[0], x) for x in ring)
        or len(set(ring)) < len(ring)
        or not all(leads_for(book, (sorting, other), value[:2], x, y) for x, y in zip(ring, ring[1:] + ring[:1]))
    ):
        return told("ring", -1)
    return ("gives", len(ring))


def drawn_sorting(draw, book):
    line = sorted(range(book[0]), key=lambda x: x + draw.random() * draw.choice((4, 4, 20)))
    return outright.by_line(book, line)


def drawn_along(draw, book, ring):
    """A sorting at which the ring leads round but for one falling tie; other things stand anywhere."""
    cut = draw.choice([k for k in range(len(ring)) if ring[k] < ring[k - 1]])
    line = list(ring[cut:] + ring[:cut])
    for thing in range(book[0]):
        if thing not in ring:
            line.insert(draw.randrange(len(line) + 1), thing)
    return outright.by_line(book, line)


class Papers(unittest.TestCase):
    def hold(self, book, one, other, none):
        paper = unmerged_paper(book, one, other)
        self.assertIs(paper is not None, none, (book, one, other))
        if none:
            self.assertTrue(same(refused(lets_unmerged, book, one, other, paper), ("gives", len(paper[2]))))
            self.assertEqual(check_unmerged(book, one, other, paper), ("gives", len(paper[2])))

    def test_examples(self):
        self.assertEqual(lets_unmerged(LOOP, ((0, 2),), ((1, 3),), (ONE, TWO, (0, 3, 1, 2))), 4)
        self.assertIsNone(unmerged_paper(LIST, ((0, 1),), ((1, 2),)))
        self.assertIsNone(unmerged_pair(LIST))

    def test_over_all_pairs(self):
        met = set()
        for book in SMALL + ROWS:
            found = outright.sortings(book)
            if len(found) > 50:
                continue
            for one, other in product(found, found):
                none = outright.least_above(book, (one, other)) is None
                self.hold(book, one, other, none)
                met.add(none)
        self.assertEqual(met, {True, False})

    def test_more_things(self):
        """Also books with far more sortings than could be gone through; held against [34]."""
        draw = random.Random(63)
        met = {True: 0, False: 0}
        for ring, book in LARGE:
            for _ in range(120):
                one = drawn_along(draw, book, ring)
                other = draw.choice((drawn_along(draw, book, ring), drawn_sorting(draw, book)))
                met[self.hold_merge(book, one, other)] += 1
        self.assertGreater(min(met.values()), 50)
        for book in RINGS + ROWS + DRAWN:
            for _ in range(60):
                self.hold_merge(book, drawn_sorting(draw, book), drawn_sorting(draw, book))

    def hold_merge(self, book, one, other):
        none = refused(least_common, book, (one, other))[0] == "InRound"
        self.hold(book, one, other, none)
        return none

    def test_papers_changed(self):
        draw = random.Random(64)
        met = set()
        cases = [(LOOP, *TOWERS)] + [(book, *unmerged_pair(book)) for book in ROWS + RINGS[:1]]
        for book, one, other in cases:
            paper = unmerged_paper(book, one, other)
            values = list(changes(paper)) + list(ODD) + list(outright.rebooled(paper))
            values += [paper[:2] + (paper[2][k:] + paper[2][:k],) for k in range(len(paper[2]))]
            values += [paper[:2] + (paper[2][::-1],), (paper[1], paper[0], paper[2]), (one, other, paper[2])]
            found = outright.sortings(book)
            values += [(draw.choice(found), draw.choice(found), paper[2]) for _ in range(60)]
            for value in values:
                wanted = check_unmerged(book, one, other, value)
                met.add(wanted[1:])
                self.assertEqual(refused(lets_unmerged, book, one, other, value), wanted, (book, value))
        self.assertGreaterEqual(met, {
            ("shape", -1), ("sorting", 0), ("sorting", 1), ("above", 0), ("above", 1), ("ring", -1), (4,)})

    def test_first_that_applies(self):
        both, ring = TOWERS, (0, 3, 1, 2)
        for value, word, at in (
            (None, "shape", -1), ([ONE, TWO, ring], "shape", -1), ((ONE, TWO), "shape", -1),
            ((ONE, TWO, ring, ring), "shape", -1), ((None, None, None), "sorting", 0), (((), None, ring), "above", 0),
            ((both[0], (0, 1), ring), "above", 0), ((ONE, None, ring), "sorting", 1), ((ONE, (), None), "above", 1),
            ((ONE, both[1], ()), "above", 1), ((ONE, ONE, ring), "ring", -1), ((ONE, TWO, None), "ring", -1),
            ((ONE, TWO, list(ring)), "ring", -1), ((ONE, TWO, (0, 3)), "ring", -1), ((ONE, TWO, ()), "ring", -1),
            ((ONE, TWO, (0,)), "ring", -1), ((ONE, TWO, (3, 0)), "ring", -1), ((ONE, TWO, ring * 2), "ring", -1),
            ((ONE, TWO, ring[::-1]), "ring", -1), ((ONE, TWO, (False, 3, True, 2)), "ring", -1),
            ((ONE, TWO, (0, 3, 1, 4)), "ring", -1), ((outright.ties(LOOP), outright.ties(LOOP), ring), "ring", -1),
        ):
            self.assertEqual(refused(lets_unmerged, LOOP, *both, value), told(word, at), value)
        self.assertEqual(refused(lets_unmerged, LIST, (), (), (ROUND, (), ())), told("sorting", 0))


class Pairs(unittest.TestCase):
    def test_over_all_pairs(self):
        for book in SMALL + ROWS[:2]:
            found = outright.sortings(book)
            if len(found) > 50:
                continue
            none = [pair for pair in combinations(found, 2) if outright.least_above(book, pair) is None]
            pair = unmerged_pair(book)
            self.assertIs(pair is None, not none, book)
            if pair is not None:
                self.assertTrue(same(pair, tuple(pair)))
                self.assertIn(tuple(sorted(pair)), none)

    def test_more_things(self):
        draw = random.Random(65)
        met = set()
        books = RINGS + ROWS + SMALL + DRAWN + outright.drawn_books(40, 7, 66) + outright.drawn_books(40, 8, 67)
        for book in books:
            for _ in range(3):
                numbers = list(range(book[0]))
                draw.shuffle(numbers)
                book = (book[0], tuple(tuple(sorted(numbers[thing] for thing in things)) for things in book[1]))
                pair = unmerged_pair(book)
                met.add(pair is None)
                self.assertIs(pair is None, has_least(book))
                if pair is not None:
                    self.assertTrue(all(outright.is_sorting(book, one) for one in pair))
                    self.assertEqual(refused(least_common, book, pair)[0], "InRound")
                    self.assertEqual(check_unmerged(book, *pair, unmerged_paper(book, *pair))[0], "gives")
        self.assertEqual(met, {True, False})


class Tried(unittest.TestCase):
    def test_examples(self):
        self.assertEqual(least_ones(LOOP, ((0, 2),), ((1, 3),)), (TWO, ONE))
        self.assertEqual(least_ones(LIST, ((0, 1),), ((1, 2),)), (outright.ties(LIST),))
        self.assertEqual(greatest_ones(LIST, ((0, 1), (0, 2)), ((0, 2), (1, 2))), ((),))

    def test_over_all_sortings(self):
        """Also [42]: one of them exactly if there is a least common one, which it then is; else a paper."""
        draw = random.Random(68)
        met = set()
        for book in SMALL + ROWS[:2]:
            found = outright.sortings(book)
            pairs = [(one, other) for one in found for other in found]
            for one, other in draw.sample(pairs, min(len(pairs), 60)):
                above = [x for x in found if set(one) | set(other) <= set(x)]
                wanted = tuple(x for x in above if not any(set(y) < set(x) for y in above))
                least = least_ones(book, one, other)
                self.assertTrue(same(least, wanted), (book, one, other))
                beneath = [x for x in found if set(x) <= set(one) & set(other)]
                wanted = tuple(x for x in beneath if not any(set(x) < set(y) for y in beneath))
                self.assertTrue(same(greatest_ones(book, one, other), wanted), (book, one, other))
                outcome = refused(least_common, book, (one, other))
                met.add(len(least) > 1)
                if len(least) == 1:
                    self.assertEqual(outcome, ("gives", least[0]))
                else:
                    self.assertEqual(outcome[0], "InRound")
                    self.assertIsNotNone(unmerged_paper(book, one, other))
        self.assertEqual(met, {True, False})

    def test_up_to_two_hundred(self):
        book = (8, tuple((x, x + 1) for x in range(7)))
        self.assertEqual(least_ones(book, ((0, 1),), ((1, 2), (6, 7))), (((0, 1), (1, 2), (6, 7)),))
        self.assertEqual(greatest_ones(book, ((0, 1), (1, 2)), ((1, 2), (6, 7))), (((1, 2),),))
        self.assertEqual(least_ones(outright.FIVE, (), outright.ties(outright.FIVE)), (outright.ties(outright.FIVE),))


class Spans(unittest.TestCase):
    def test_examples(self):
        self.assertEqual(list(between_sortings(LIST, (), ((0, 1), (0, 2)))), [(), ((0, 1),), ((0, 1), (0, 2))])
        self.assertEqual(agreed_ties(LIST, (((0, 1),), ((0, 1), (0, 2)))), ((0, 1), (1, 2)))

    def test_over_all_sortings(self):
        draw = random.Random(69)
        for book in SMALL:
            found = outright.sortings(book)
            for _ in range(25):
                one, other = draw.choice(found), draw.choice(found)
                if set(one) <= set(other):
                    wanted = [x for x in found if set(one) <= set(x) <= set(other)]
                    self.assertTrue(same(list(between_sortings(book, one, other)), wanted))
                else:
                    outcome = refused(lambda: list(between_sortings(book, one, other)))
                    self.assertEqual(outcome, ("NotUsable", "other", -1))
            self.assertEqual(list(between_sortings(book, found[0], found[0])), [found[0]])
            self.assertEqual(list(between_sortings(book, (), outright.ties(book))), found)

    def test_generator(self):
        """Errors are raised when the first result is asked for."""
        some = between_sortings(LIST, (), ((0, 1), (0, 2)))
        self.assertIs(iter(some), some)
        self.assertEqual((next(some), next(some)), ((), ((0, 1),)))
        for values, word in (
            ((None, None), "sorting"), ((ROUND, ()), "sorting"), (((), ROUND), "other"), (((), None), "other"),
            ((((0, 1),), ()), "other"), ((((0, 1),), ((1, 2),)), "other"), (((), [()]), "other"),
            ((((False, 1),), ((0, 1),)), "sorting"), ((((0, 1),), ((False, 1),)), "other"),
        ):
            some = between_sortings(LIST, *values)
            self.assertEqual(refused(next, some), ("NotUsable", word, -1), values)
            some = between_sortings(other=values[1], sorting=values[0], book=LIST)
            self.assertEqual(refused(next, some), ("NotUsable", word, -1), values)

    def test_agreed(self):
        draw = random.Random(70)
        for book in SMALL:
            every = outright.ties(book)
            self.assertEqual(agreed_ties(book, ()), every)
            for some in outright.draw_tuples(draw, book, 6):
                wanted = tuple(tie for tie in every if len({tie in one for one in some}) < 2)
                self.assertTrue(same(agreed_ties(book, some), wanted))
            self.assertEqual(agreed_ties(book, ((), every)), ())


if __name__ == "__main__":
    unittest.main()
