"""[9], [10], [11] (G5), [59], [60], [62]: corners, sides, even patterns, undoing that ends unlike."""
import random
import unittest
from itertools import permutations

import outright
from outright import FIVE, JOINTED, LIST, PAIR, changes, each_word, refused, same, told
from listbylist.corners import corner_of, corner_ropes
from listbylist.evens import is_even, sides_of, uneven_pair
from listbylist.undochecker import lets_undoing
from listbylist.unlikes import lets_unlike, unlike_ends

LAST = ((0, 1), (0, 2), (1, 2))
SHORT = ("ropes", ((0, 1, ()), (1, 2, ())))
FOUR = (4, ((0, 1, 2, 3),))
LARGE = (outright.band_book(10, 4), (10, ((0, 1, 2, 3, 4), (4, 5, 6, 7), (3, 4, 9), (8, 9))))


def corners(book):
    """All (sorting, tie, other) that corner_of takes."""
    for sorting in outright.sortings(book):
        for tie, other in permutations(outright.falls(book, sorting), 2):
            yield sorting, tie, other


class Corners(unittest.TestCase):
    def test_examples(self):
        self.assertEqual(
            corner_of(LIST, LAST, (0, 1), (1, 2)),
            (((0, 1), (0, 2), (1, 2)), ((0, 2), (1, 2)), ((1, 2),), (), ((0, 1),), ((0, 1), (0, 2))))
        self.assertEqual(
            corner_ropes(LIST, LAST, (0, 1), (1, 2)),
            ((0, 1, ()), (0, 2, ()), (1, 2, ()), (0, 1, ()), (0, 2, (1,)), (1, 2, ())))

    def test_by_the_words(self):
        met = set()
        for book in JOINTED + (FIVE,):
            for sorting, tie, other in list(corners(book))[::1 + len(outright.sortings(book)) // 30]:
                corner = corner_of(book, sorting, tie, other)
                met.add(len(corner))
                self.assertTrue(same(corner, tuple(corner)))
                lowest = outright.greatest_beneath(book, (outright.flip(sorting, tie), outright.flip(sorting, other)))
                place = len(corner) // 2
                self.assertEqual(corner[0], sorting)
                self.assertEqual(corner[1], outright.flip(sorting, tie))
                self.assertEqual(corner[-1], outright.flip(sorting, other))
                self.assertEqual(corner[place], lowest)
                self.assertTrue(all(outright.is_sorting(book, one) for one in corner))
                for k in range(place):
                    self.assertEqual((len(set(corner[k]) - set(corner[k + 1])), set(corner[k + 1]) - set(corner[k])), (1, set()))
                for k in range(place, len(corner) - 1):
                    self.assertEqual((len(set(corner[k + 1]) - set(corner[k])), set(corner[k]) - set(corner[k + 1])), (1, set()))
                self.hold_ropes(book, sorting, tie, other)
        self.assertEqual(met, {4, 6})

    def hold_ropes(self, book, sorting, tie, other):
        """Also [62]: four or six, and which of the ropes are the same."""
        corner = corner_of(book, sorting, tie, other)
        ropes = corner_ropes(book, sorting, tie, other)
        wanted = []
        for k, one in enumerate(corner):
            two = corner[(k + 1) % len(corner)]
            (exchanged,) = set(one) ^ set(two)
            upper = max(one, two, key=len)
            wanted += [rope for rope in outright.reasons(book, upper) if rope[:2] == exchanged]
        self.assertTrue(same(ropes, tuple(wanted)))
        low, high = min(tie, other), max(tie, other)
        six = low[1] == high[0] and outright.tied(book, low[0], high[1])
        self.assertEqual(len(corner), 6 if six else 4)
        if six:
            self.assertEqual((ropes[0], ropes[2]), (ropes[3], ropes[5]))
            ends = tuple(sorted((ropes[0], ropes[2])))
            sides = {(one, two): {ahead, behind} for one, two, ahead, behind in outright.choices(book)}
            self.assertEqual(sides[ends], {ropes[1], ropes[4]})
        else:
            self.assertEqual((ropes[0], ropes[1]), (ropes[2], ropes[3]))

    def test_each_choice_comes(self):
        """[62]: each choice comes so at some sorting."""
        for book in JOINTED + (FIVE,):
            found = set()
            for sorting, tie, other in corners(book):
                if tie < other and tie[1] == other[0] and outright.tied(book, tie[0], other[1]):
                    ropes = corner_ropes(book, sorting, tie, other)
                    found.add((ropes[0], ropes[2], frozenset((ropes[1], ropes[4]))))
            wanted = {(low, high, frozenset(sides)) for low, high, *sides in outright.choices(book)}
            self.assertEqual(found, wanted)

    def test_wrong_ties(self):
        for call in (corner_of, corner_ropes):
            for tie in ((0, 2), (1, 0), (0, 3), [0, 1], None, (False, 1), (0, 1, ()), ((0, 1),)):
                self.assertEqual(refused(call, LIST, LAST, tie, None), ("NotUsable", "tie", -1), tie)
                self.assertEqual(refused(call, LIST, LAST, (1, 2), tie), ("NotUsable", "other", -1), tie)
            self.assertEqual(refused(call, LIST, LAST, (0, 1), (0, 1)), ("NotUsable", "other", -1))
            self.assertEqual(refused(call, LIST, ((0, 1),), (0, 1), (1, 2)), ("NotUsable", "other", -1))
            self.assertEqual(refused(call, LIST, ((0, 1),), (1, 2), (0, 1)), ("NotUsable", "tie", -1))
            self.assertEqual(refused(call, LIST, ((0, 1), (1, 2)), None, None), ("NotUsable", "sorting", -1))
            outcome = refused(lambda: call(other=None, tie=None, sorting=LAST, book=LIST))
            self.assertEqual(outcome, ("NotUsable", "tie", -1))

    def test_more_things(self):
        book = outright.band_book(10, 6)
        line = (9, 8, 4, 7, 6, 5, 3, 2, 1, 0)
        sorting = outright.by_line(book, line)
        falls = outright.falls(book, sorting)
        for tie, other in list(permutations(falls, 2))[:20]:
            self.hold_ropes(book, sorting, tie, other)


class Sides(unittest.TestCase):
    def test_examples(self):
        self.assertEqual(sides_of(LIST, (0, 1, ()), (1, 2, ())), ((0, 2, (1,)), (0, 2, ())))
        self.assertIsNone(sides_of(LIST, (1, 2, ()), (0, 1, ())))
        self.assertIsNone(sides_of(PAIR, (0, 1, ()), (1, 3, ())))

    def test_over_all_choices(self):
        for book in JOINTED + (FIVE,):
            sides = {}
            for low, high, ahead, behind in outright.choices(book):
                self.assertNotIn((low, high), sides)
                sides[low, high] = (ahead, behind)
            for rope in outright.ropes(book):
                for other in outright.ropes(book):
                    self.assertTrue(same(sides_of(book, rope, other), sides.get((rope, other))))


class Evens(unittest.TestCase):
    def test_examples(self):
        self.assertIs(is_even(LIST, SHORT), False)
        self.assertEqual(uneven_pair(LIST, SHORT), ((0, 1, ()), (1, 2, ())))
        self.assertEqual(lets_unlike(LIST, SHORT, (LAST, ((0, 1),), ((1, 2),))), (((0, 2), (1, 2)), ((0, 1), (0, 2))))
        for pattern in (("all",), ("none",), ("ahead", 1), ("ropes", ((0, 1, ()),)), ("above", ((0, 1, ()), (1, 2, ())))):
            self.assertIs(is_even(LIST, pattern), True)
            self.assertIsNone(unlike_ends(LIST, pattern))

    def patterns(self, draw, book):
        yield from each_word(draw, book)
        ropes = outright.ropes(book)
        for _ in range(10):
            yield ("ropes", tuple(sorted(draw.sample(ropes, draw.randrange(len(ropes) + 1)))))
        # One of the sides of a choice is told, or none, or both, and other things besides.
        every = list(outright.choices(book))
        for low, high, *sides in draw.sample(every, min(len(every), 6)):
            for more in ((), sides[:1], sides[1:], sides):
                extra = draw.sample(ropes, draw.randrange(3))
                yield ("ropes", tuple(sorted({low, high, *more, *extra})))

    def test_by_choices_and_by_ends(self):
        """Also (G5): even exactly if all undoing ends alike."""
        draw = random.Random(151)
        met = set()
        for book in JOINTED + (FIVE,):
            sides = {(low, high): rest for low, high, *rest in outright.choices(book)}
            for pattern in self.patterns(draw, book):
                wanted = outright.even(book, pattern)
                met.add(wanted)
                self.assertIs(is_even(book, pattern), wanted)
                pair = uneven_pair(book, pattern)
                self.assertIs(pair is None, wanted)
                if pair is not None:
                    ropes = outright.told_ropes(book, pattern)
                    self.assertLessEqual(set(pair), set(ropes))
                    self.assertFalse(set(sides[pair]) <= set(ropes))
                    self.assertTrue(same(pair, tuple(pair)))
                self.hold_unlike(book, pattern, wanted)
                if len(outright.sortings(book)) < 30:
                    alike = all(len(outright.ends_from(book, one, pattern)) == 1 for one in outright.sortings(book))
                    self.assertIs(alike, wanted)
        self.assertEqual(met, {True, False})

    def hold_unlike(self, book, pattern, even):
        paper = unlike_ends(book, pattern)
        self.assertIs(paper is None, even)
        if paper is not None:
            outcome = check_unlike(book, pattern, paper)
            self.assertEqual(outcome[0], "gives", (book, pattern, paper))
            self.assertTrue(same(refused(lets_unlike, book, pattern, paper), outcome))
            ends = tuple(lets_undoing(book, paper[0], pattern, steps) for steps in paper[1:])
            self.assertEqual(ends, outcome[1])

    def test_more_things(self):
        """Books with far more sortings than could be gone through."""
        draw = random.Random(152)
        for book in LARGE:
            for pattern in list(self.patterns(draw, book))[::3]:
                self.hold_unlike(book, pattern, outright.even(book, pattern))

    def test_redoing(self):
        """(G5): redoing ends alike exactly if the pattern is even."""
        draw = random.Random(153)
        for book in (LIST, PAIR, FOUR):
            for pattern in self.patterns(draw, book):
                ropes = outright.told_ropes(book, pattern)
                tops = {}
                for one in sorted(outright.sortings(book), key=len, reverse=True):
                    ups = [outright.flip(one, tie) for tie in outright.rises(book, one)]
                    above = [two for two in ups if any(
                        rope in ropes for rope in outright.reasons(book, two) if rope[:2] in set(two) - set(one))]
                    tops[one] = set().union(*(tops[two] for two in above)) if above else {one}
                self.assertIs(all(len(one) == 1 for one in tops.values()), is_even(book, pattern))


def end_of(book, sorting, pattern, steps, word):
    """The outcome of one of the two tuples of steps."""
    if type(steps) is not tuple:
        return told(word, -1)
    for k, tie in enumerate(steps):
        if not outright.is_tie(book, tie) or tie not in outright.falls_in(book, sorting, pattern):
            return told(word, k)
        sorting = outright.flip(sorting, tie)
    return told(word, -1) if outright.falls_in(book, sorting, pattern) else ("gives", sorting)


def check_unlike(book, pattern, value):
    """What lets_unlike gives by its words."""
    if type(value) is not tuple or len(value) != 3:
        return told("shape", -1)
    if not outright.is_sorting(book, value[0]):
        return told("sorting", -1)
    ends = []
    for steps, word in zip(value[1:], ("first", "second")):
        outcome = end_of(book, value[0], pattern, steps, word)
        if outcome[0] == "InvalidPaper":
            return outcome
        ends.append(outcome[1])
    return told("same", -1) if ends[0] == ends[1] else ("gives", tuple(ends))


class Unlikes(unittest.TestCase):
    def test_papers_changed(self):
        draw = random.Random(154)
        met = set()
        for book in (LIST, PAIR, FOUR, (5, ((0, 1, 2, 3), (1, 2, 3, 4)))):
            ropes = outright.ropes(book)
            for pattern in [SHORT] + [("ropes", tuple(sorted(draw.sample(ropes, 1 + len(ropes) // 2)))) for _ in range(8)]:
                paper = unlike_ends(book, pattern) or (outright.ties(book), (), ())
                values = list(changes(paper)) + list(outright.rebooled(paper))
                values = draw.sample(values, min(150, len(values))) + [
                    (paper[0], paper[2], paper[1]), (paper[0], paper[1], paper[1]), paper, (paper[0], (), ()), paper[:2],
                    (paper[0], list(paper[1]), paper[2]), (paper[0], paper[1], list(paper[2])), ((), (), ())]
                values += [(paper[0], paper[1][:k], paper[2]) for k in range(len(paper[1]))]
                values += [(paper[0], paper[1], paper[2][:k]) for k in range(len(paper[2]))]
                for value in values:
                    wanted = check_unlike(book, pattern, value)
                    met.add(wanted[1:] if wanted[0] == "InvalidPaper" else "gives")
                    self.assertTrue(same(refused(lets_unlike, book, pattern, value), wanted), (book, pattern, value))
        self.assertGreaterEqual(met, {
            ("shape", -1), ("sorting", -1), ("first", -1), ("first", 0), ("first", 1), ("second", -1), ("second", 0),
            ("same", -1), "gives"})

    def test_first_that_applies(self):
        one, two = ((0, 1),), ((1, 2),)
        for value, word, at in (
            (None, "shape", -1), ([LAST, one, two], "shape", -1), ((LAST, one), "shape", -1),
            ((LAST, one, two, two), "shape", -1), ((None, None, None), "sorting", -1), ((list(LAST), one, two), "sorting", -1),
            ((((0, 1), (1, 2)), one, two), "sorting", -1), ((LAST, None, None), "first", -1), ((LAST, list(one), two), "first", -1),
            ((LAST, (None,), None), "first", 0), ((LAST, ((0, 2),), two), "first", 0), ((LAST, ((0, 1), (0, 2)), two), "first", 1),
            ((LAST, ((False, 1),), two), "first", 0), ((LAST, (), None), "first", -1), ((LAST, one, None), "second", -1),
            ((LAST, one, ()), "second", -1), ((LAST, one, ((0, 1), (0, 1))), "second", 1), ((LAST, one, (7,)), "second", 0),
            ((LAST, one, one), "same", -1), (((), (), ()), "same", -1),
        ):
            self.assertEqual(refused(lets_unlike, LIST, SHORT, value), told(word, at), value)


if __name__ == "__main__":
    unittest.main()
