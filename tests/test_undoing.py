"""[10], [11] (G5), [56] to [58], [61], [62]: undoing by patterns, its ends, Undoing objects."""
import random
import unittest
from itertools import combinations

import outright
from outright import FIVE, GAP, JOINTED, LIST, LOOP, ODD, PAIR, changes, each_word, refused, same, told
from listbylist.endings import all_ends, ends_from, lots_outside, told_back
from listbylist.evens import is_even
from listbylist.joints import lets_joint
from listbylist.patternlots import pattern_ropes
from listbylist.showings import least_showing
from listbylist.undochecker import lets_undoing
from listbylist.undoclasses import Undoing
from listbylist.undoing import end_first, falls_in, is_end, undo_first, undone

LAST = ((0, 1), (0, 2), (1, 2))
SHORT = ("ropes", ((0, 1, ()), (1, 2, ())))
FOUR = (4, ((0, 1, 2, 3),))
LARGE = (outright.band_book(10, 4), (10, ((0, 1, 2, 3, 4), (4, 5, 6, 7), (3, 4, 9), (8, 9))))


def check_undoing(book, sorting, pattern, value):
    """What lets_undoing gives by its words."""
    if type(value) is not tuple:
        return told("shape", -1)
    for k, tie in enumerate(value):
        if not outright.is_tie(book, tie):
            return told("tie", k)
        if tie not in outright.falls(book, sorting):
            return told("fall", k)
        if tie not in outright.falls_in(book, sorting, pattern):
            return told("rope", k)
        sorting = outright.flip(sorting, tie)
    return told("end", -1) if outright.falls_in(book, sorting, pattern) else ("gives", sorting)


def drawn_steps(draw, book, sorting, pattern, most=40):
    """Some steps of undoing, down to an end or not."""
    steps = []
    while outright.falls_in(book, sorting, pattern) and len(steps) < most:
        steps.append(draw.choice(outright.falls_in(book, sorting, pattern)))
        sorting = outright.flip(sorting, steps[-1])
    return tuple(steps), sorting


class Undoings(unittest.TestCase):
    def test_examples(self):
        self.assertEqual(end_first(LIST, LAST, SHORT), ((0, 2), (1, 2)))
        self.assertEqual(undo_first(LIST, LAST, SHORT), ((0, 1),))
        self.assertEqual(undone(LIST, LAST, ("all",), ((1, 2), (0, 2))), ((0, 1),))
        self.assertEqual(falls_in(LIST, LAST, SHORT), ((0, 1), (1, 2)))
        self.assertEqual((undo_first(LIST, (), ("all",)), end_first(LIST, (), ("all",))), ((), ()))

    def test_by_the_words(self):
        draw = random.Random(131)
        for book in JOINTED:
            found = outright.sortings(book)
            for pattern in each_word(draw, book):
                for sorting in draw.sample(found, min(len(found), 6)) + [found[-1], outright.ties(book)]:
                    falls = outright.falls_in(book, sorting, pattern)
                    self.assertTrue(same(falls_in(book, sorting, pattern), falls))
                    self.assertIs(is_end(book, sorting, pattern), not falls)
                    steps, end = [], sorting
                    while outright.falls_in(book, end, pattern):
                        steps.append(min(outright.falls_in(book, end, pattern)))
                        end = outright.flip(end, steps[-1])
                    self.assertTrue(same(undo_first(book, sorting, pattern), tuple(steps)))
                    self.assertTrue(same(end_first(book, sorting, pattern), end))

    def test_undone(self):
        draw = random.Random(132)
        for book in JOINTED:
            found = outright.sortings(book)
            for pattern in each_word(draw, book):
                sorting = draw.choice(found)
                steps, reached = drawn_steps(draw, book, sorting, pattern, draw.randrange(6))
                self.assertTrue(same(undone(book, sorting, pattern, steps), reached))
                values = [list(steps), steps + (None,)] + [steps + (tie,) for tie in outright.ties(book)]
                values += list(changes(steps))[::7] + list(outright.rebooled(steps)) + [steps[::-1], steps[:1]]
                for value in values:
                    good = outright.undoes(book, sorting, pattern, value)
                    outcome = refused(undone, book, sorting, pattern, value)
                    if good:
                        wanted = sorting
                        for tie in value:
                            wanted = outright.flip(wanted, tie)
                        self.assertEqual(outcome, ("gives", wanted))
                    else:
                        self.assertEqual(outcome, ("NotUsable", "steps", -1), (book, sorting, pattern, value))
        for value in ODD + (((0, 2),), ((0, 1), (0, 1)), ((False, 1),), [(0, 1)], ((0, 1), (1, 2)), (((0, 1),),)):
            self.assertEqual(refused(undone, LIST, LAST, SHORT, value), ("NotUsable", "steps", -1), value)

    def test_more_things(self):
        draw = random.Random(133)
        for book in LARGE:
            for _ in range(6):
                line = list(range(book[0]))
                draw.shuffle(line)
                sorting, pattern = outright.by_line(book, line), outright.drawn_pattern(draw, book)
                steps = undo_first(book, sorting, pattern)
                end = end_first(book, sorting, pattern)
                self.assertEqual(check_undoing(book, sorting, pattern, steps), ("gives", end))
                self.assertEqual(lets_undoing(book, sorting, pattern, steps), end)
                self.assertEqual(undone(book, sorting, pattern, steps), end)
                self.assertIs(is_end(book, end, pattern), True)

    def test_ends_by_reasons(self):
        """(G5): ends by what is told of their reasons; told ropes by the least sorting that shows them."""
        draw = random.Random(134)
        for book in JOINTED:
            for pattern in each_word(draw, book):
                for rope in outright.ropes(book):
                    told_here = outright.tells(book, pattern, rope)
                    self.assertIs(is_end(book, least_showing(book, rope), pattern), not told_here)


class Checker(unittest.TestCase):
    def test_papers_changed(self):
        draw = random.Random(135)
        met = set()
        for book in (LIST, PAIR, FOUR, (5, ((0, 1, 2), (2, 3, 4))), (3, ((0, 1), (0, 2), (1, 2)))):
            found = outright.sortings(book)
            for pattern in list(each_word(draw, book)) + [("all",)] * 3:
                sorting = draw.choice([outright.ties(book), draw.choice(found)])
                paper = undo_first(book, sorting, pattern)
                self.assertEqual(lets_undoing(book, sorting, pattern, paper), end_first(book, sorting, pattern))
                values = draw.sample(list(changes(paper)), min(25, len(list(changes(paper))))) + [list(paper)]
                values += [paper[:k] for k in range(len(paper))] + list(outright.rebooled(paper)) + [paper[::-1]]
                values += [drawn_steps(draw, book, sorting, pattern)[0] for _ in range(3)]
                values += [paper[:k] + (tie,) + paper[k:] for k in (0, 1) for tie in outright.ties(book)]
                for value in values:
                    wanted = check_undoing(book, sorting, pattern, value)
                    met.add(wanted[1] if wanted[0] == "InvalidPaper" else "gives")
                    outcome = refused(lets_undoing, book, sorting, pattern, value)
                    self.assertTrue(same(outcome, wanted), (book, sorting, pattern, value))
        self.assertEqual(met, {"shape", "tie", "fall", "rope", "end", "gives"})

    def test_first_that_applies(self):
        for value, word, at in (
            (None, "shape", -1), ([(0, 1)], "shape", -1), ("steps", "shape", -1), ((None,), "tie", 0),
            (((1, 0),), "tie", 0), (((False, 1),), "tie", 0), (([0, 1],), "tie", 0), (((0, 2),), "fall", 0),
            (((0, 1), (0, 1)), "fall", 1), (((0, 1), (0, 2)), "rope", 1), (((0, 1), (1, 2)), "fall", 1), ((), "end", -1),
            (((0, 2), None), "fall", 0), (((0, 1), (0, 2), None), "rope", 1), (((0, 1), (0, 3)), "tie", 1),
        ):
            self.assertEqual(refused(lets_undoing, LIST, LAST, SHORT, value), told(word, at), value)
        self.assertEqual(lets_undoing(LIST, LAST, SHORT, ((0, 1),)), ((0, 2), (1, 2)))
        self.assertEqual(lets_undoing((3, ()), (), ("all",), ()), ())


class Endings(unittest.TestCase):
    def test_examples(self):
        self.assertEqual(ends_from(LIST, LAST, SHORT), (((0, 1), (0, 2)), ((0, 2), (1, 2))))
        wanted = ((), ((0, 1, ()),), ((0, 1, ()), (1, 2, ())), ((1, 2, ()),))
        self.assertEqual(lots_outside(LIST, ("amid", 1)), wanted)
        self.assertEqual(told_back(LIST, ((), ((0, 1),))), ((0, 2, ()), (0, 2, (1,)), (1, 2, ())))

    def test_in_every_sequence(self):
        """Also [62]: one end for each sorting exactly if the pattern is even."""
        draw = random.Random(136)
        met = set()
        for book in JOINTED:
            found = outright.sortings(book)
            for pattern in each_word(draw, book):
                one_each = True
                for sorting in found if len(found) < 30 else draw.sample(found, 12):
                    ends = outright.ends_from(book, sorting, pattern)
                    one_each = one_each and len(ends) == 1
                    self.assertTrue(same(ends_from(book, sorting, pattern), ends))
                    self.assertIn(end_first(book, sorting, pattern), ends)
                if len(found) < 30:
                    self.assertIs(is_even(book, pattern), one_each)
                    met.add(one_each)
                wanted = tuple(one for one in found if not outright.falls_in(book, one, pattern))
                self.assertTrue(same(all_ends(book, pattern), wanted))
        self.assertEqual(met, {True, False})

    def test_lots_outside(self):
        """Also [62]: these are the reasons of all ends."""
        draw = random.Random(137)
        for book in JOINTED:
            ropes = outright.ropes(book)
            crossed = {pair for pair in combinations(ropes, 2) if outright.crossings(book, *pair)}
            for pattern in each_word(draw, book):
                lots = [()]
                for rope in ropes:
                    if rope not in outright.told_ropes(book, pattern):
                        lots += [lot + (rope,) for lot in lots if not any((one, rope) in crossed for one in lot)]
                self.assertTrue(same(lots_outside(book, pattern), tuple(sorted(lots))))
                ends = all_ends(book, pattern)
                self.assertEqual({outright.reasons(book, end) for end in ends}, set(lots))
                self.assertEqual(told_back(book, ends), pattern_ropes(book, pattern))

    def test_told_back(self):
        draw = random.Random(138)
        for book in JOINTED + (FIVE,):
            found = outright.sortings(book)
            for many in (0, 1, 2, 8, len(found)):
                some = tuple(draw.sample(found, min(many, len(found))))
                wanted = tuple(rope for rope in outright.ropes(book) if least_showing(book, rope) not in some)
                self.assertTrue(same(told_back(book, some), wanted))
                self.assertEqual(told_back(book, some + some), wanted)
        self.assertEqual(told_back((3, ()), ()), ())

    def test_without_ties(self):
        """[62]: no ropes, and one end for each pattern."""
        draw = random.Random(139)
        for book in ((1, ()), (4, ())):
            for pattern in each_word(draw, book):
                self.assertEqual((all_ends(book, pattern), ends_from(book, (), pattern)), (((),), ((),)))
                self.assertEqual((lots_outside(book, pattern), pattern_ropes(book, pattern)), (((),), ()))
                self.assertEqual(undo_first(book, (), pattern), ())


class Objects(unittest.TestCase):
    def test_as_the_functions(self):
        draw = random.Random(140)
        for book in JOINTED:
            found = outright.sortings(book)
            for pattern in list(each_word(draw, book))[::3]:
                one = Undoing(book, pattern)
                self.assertTrue(same(one.told(), (book, pattern)))
                self.assertIs(one.even(), outright.even(book, pattern))
                self.assertTrue(same(one.ropes(), outright.told_ropes(book, pattern)))
                self.assertTrue(same(one.ends(), all_ends(book, pattern)))
                sorting = draw.choice(found)
                self.assertTrue(same(one.last(sorting), end_first(book, sorting, pattern)))
                self.assertTrue(same(one.falls(sorting=sorting), outright.falls_in(book, sorting, pattern)))
                self.assertTrue(same(one.told(), (book, pattern)))

    def test_equal(self):
        one = Undoing(LIST, ("ahead", 1))
        three = (3, ((0, 1), (0, 2), (1, 2)))
        for pattern in (("ahead", 1), ("ropes", ((0, 2, (1,)),)), ("not", ("not", ("ahead", 1))),
                        ("both", ("amid", 1), ("not", ("behind", 1))), ("above", ((0, 2, (1,)),))):
            self.assertTrue(one == Undoing(LIST, pattern))
            self.assertTrue(Undoing(book=LIST, pattern=pattern) == one)
            self.assertFalse(one != Undoing(LIST, pattern))
        for other in (Undoing(LIST, ("amid", 1)), Undoing(LIST, ("none",)), Undoing(three, ("ahead", 1)), None, 1,
                      one.told(), one.ropes(), Undoing((4, ((0, 1, 2),)), ("ahead", 1)), "one"):
            self.assertFalse(one == other)
            self.assertTrue(one != other)
        self.assertTrue(Undoing((3, ()), ("all",)) == Undoing((3, ()), ("none",)))
        self.assertFalse(Undoing((3, ()), ("all",)) == Undoing((2, ()), ("all",)))

    def test_wrong_inputs(self):
        for book in ODD + ([3, ()], (0, ()), (3, ((0, True, 2),)), (3, [(0, 1)])):
            if not outright.is_book(book):
                self.assertEqual(refused(Undoing, book, None), ("NotUsable", "book", -1), book)
        for book in (GAP, LOOP, outright.ring_book(6), (5, ((0, 1, 4), (0, 2, 4)))):
            for pattern in (("all",), None):
                outcome = refused(Undoing, book, pattern)
                self.assertEqual(outcome[0], "Unjointed", book)
                self.assertIn(lets_joint(book, outcome[1]), ("ring", "gap"))
        for pattern in ODD + (("all", 1), ["all"], ("amid", True), ("ropes", ((0, 3, ()),)), ("ropes", [(0, 1, ())])):
            self.assertEqual(refused(Undoing, LIST, pattern), ("NotUsable", "pattern", -1), pattern)
        one = Undoing(LIST, SHORT)
        for sorting in ODD + (((0, 1), (1, 2)), ((0, 3),), [], ((False, 1),)):
            if not outright.is_sorting(LIST, sorting):
                self.assertEqual(refused(one.last, sorting), ("NotUsable", "sorting", -1), sorting)
                self.assertEqual(refused(one.falls, sorting), ("NotUsable", "sorting", -1), sorting)


if __name__ == "__main__":
    unittest.main()
