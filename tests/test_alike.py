"""[10], [11] (G5), (G7), (G10), [69] to [72]: alike by a pattern, tops, what parts two sortings, View objects."""
import random
import unittest
from itertools import product

import outright
from outright import FIVE, GAP, JOINTED, LIST, LOOP, ODD, PAIR, RUNGS, changes, refused, same, told
from listbylist.finests import base_ties, base_turned, finest_alike, step_ropes
from listbylist.joints import lets_joint
from listbylist.sortturns import turned_over
from listbylist.tops import alike_by, alike_sortings, is_top, top_of
from listbylist.undoing import is_end
from listbylist.viewclasses import View
from listbylist.viewmerges import even_end, greatest_in, least_in
from listbylist.viewpartings import lets_parting, parting_of
from test_viewmerges import HUGE, LARGE, off_even

LAST = ((0, 1), (0, 2), (1, 2))
SHORT = ("ropes", ((0, 1, ()), (1, 2, ())))
FOUR = (4, ((0, 1, 2, 3),))
BOOKS = tuple(book for book in JOINTED if len(outright.sortings(book)) <= 36)


def drawn_pairs(draw, book, many):
    found = outright.sortings(book)
    every = list(product(found, repeat=2))
    return draw.sample(every, min(many, len(every)))


def drawn_line(draw, book):
    return outright.by_line(book, draw.sample(range(book[0]), book[0]))


def rope_up(book, middle, tie):
    """The rope of the exchange of a rise."""
    (rope,) = [rope for rope in outright.reasons(book, outright.flip(middle, tie)) if rope[:2] == tie]
    return rope


def common(book, sorting, other):
    both = (sorting, other)
    return outright.greatest_beneath(book, both), outright.least_above(book, both)


def check_parting(book, sorting, other, pattern, value):
    """What lets_parting gives by its words."""
    if type(value) is not tuple or len(value) != 2:
        return told("shape", -1)
    low, high = common(book, sorting, other)
    middle, tie = value
    if not outright.is_sorting(book, middle) or not set(low) <= set(middle) <= set(high):
        return told("sorting", -1)
    if not outright.is_tie(book, tie) or tie not in outright.rises(book, middle) or tie not in high:
        return told("tie", -1)
    rope = rope_up(book, middle, tie)
    return told("rope", -1) if outright.tells(book, pattern, rope) else ("gives", rope)


class Alike(unittest.TestCase):
    def test_examples(self):
        self.assertEqual(top_of(LIST, ((0, 1),), ("ahead", 1)), ((0, 1), (0, 2)))
        self.assertIs(alike_by(LIST, ((0, 1),), ((0, 1), (0, 2)), ("ahead", 1)), True)
        self.assertEqual(alike_sortings(LIST, ((0, 1),), ("ahead", 1)), (((0, 1),), ((0, 1), (0, 2))))

    def test_by_all_undoing_and_redoing(self):
        """Also (G5), (G7), [72]."""
        draw = random.Random(241)
        met = set()
        for book in JOINTED:
            found = outright.sortings(book)
            for pattern in outright.even_patterns(draw, book, 1):
                ends, tops = outright.last_ones(book, pattern, False), outright.last_ones(book, pattern, True)
                self.assertTrue(all(len(one) == 1 for one in tops.values()))
                for one in draw.sample(found, min(len(found), 5)):
                    top = top_of(book, one, pattern)
                    self.assertTrue(same(top, tops[one][0]))
                    self.assertIs(is_top(book, one, pattern), tops[one] == (one,))
                    wanted = tuple(other for other in found if ends[other] == ends[one])
                    self.assertTrue(same(alike_sortings(book, one, pattern), wanted))
                    self.assertEqual(wanted, tuple(other for other in found if tops[other] == tops[one]))
                    self.assertEqual((ends[ends[one][0]], tops[ends[one][0]]), (ends[one], tops[one]))
                    self.assertEqual((ends[top], tops[top]), (ends[one], tops[one]))
                for one, other in drawn_pairs(draw, book, 6):
                    met.add(ends[one] == ends[other])
                    self.assertIs(alike_by(book, one, other, pattern), ends[one] == ends[other])
        self.assertEqual(met, {True, False})

    def test_tops_of_any_pattern(self):
        draw = random.Random(242)
        met = set()
        for book in JOINTED:
            for pattern in outright.rung_patterns(draw, book, 1):
                for one, _ in drawn_pairs(draw, book, 4):
                    wanted = not outright.rises_in(book, one, pattern)
                    met.add((wanted, outright.even(book, pattern)))
                    self.assertIs(is_top(book, one, pattern), wanted)
        self.assertEqual(met, set(product((True, False), repeat=2)))

    def test_turned_over(self):
        """[72]: an end by the one pattern is, turned over, a top by the other one."""
        draw = random.Random(243)
        for book in JOINTED:
            for pattern in outright.rung_patterns(draw, book, 1):
                found = outright.told_ropes(book, pattern)
                other = ("ropes", tuple(sorted((*rope[:2], outright.behind(book, rope)) for rope in found)))
                for one, _ in drawn_pairs(draw, book, 5):
                    self.assertIs(is_end(book, one, pattern), is_top(book, turned_over(book, one), other))
                    self.assertIs(is_top(book, one, pattern), is_end(book, turned_over(book, one), other))

    def test_huge(self):
        draw = random.Random(244)
        for book in HUGE + LARGE:
            for pattern in (("all",), ("none",), ("ahead", 1), ("both", ("ahead", 1), ("behind", 1)), ("amid", 2)):
                one = drawn_line(draw, book)
                top, end = top_of(book, one, pattern), even_end(book, one, pattern)
                self.assertTrue(set(end) <= set(one) <= set(top))
                self.assertIs(is_top(book, top, pattern), True)
                self.assertIs(alike_by(book, end, top, pattern), True)
                self.assertIsNone(parting_of(book, end, top, pattern))
                other = drawn_line(draw, book)
                alike = even_end(book, other, pattern) == end
                self.assertIs(alike_by(book, one, other, pattern), alike)
                paper = parting_of(book, one, other, pattern)
                self.assertIs(paper is None, alike)
                if paper:
                    rope = lets_parting(book, one, other, pattern, paper)
                    self.assertEqual(rope, rope_up(book, *paper))
                    self.assertFalse(outright.tells(book, pattern, rope))

    def test_wrong_inputs(self):
        for value in ODD + (((0, 1), (1, 2)), [], ((False, 1),)):
            if not outright.is_sorting(LIST, value):
                for call in (is_top, top_of, alike_sortings):
                    self.assertEqual(refused(call, LIST, value, None), ("NotUsable", "sorting", -1), value)
                for call in (alike_by, parting_of, lambda *given: lets_parting(*given, None)):
                    self.assertEqual(refused(call, LIST, value, None, None), ("NotUsable", "sorting", -1), value)
                    self.assertEqual(refused(call, LIST, (), value, None), ("NotUsable", "other", -1), value)
        for value in ODD + (("amid", True), ("ropes", [(0, 1, ())])):
            for call in (is_top, top_of, alike_sortings):
                self.assertEqual(refused(call, LIST, (), value), ("NotUsable", "pattern", -1), value)
            for call in (alike_by, parting_of, lambda *given: lets_parting(*given, None)):
                self.assertEqual(refused(call, LIST, (), (), value), ("NotUsable", "pattern", -1), value)

    def test_off_even(self):
        draw = random.Random(245)
        for book in JOINTED:
            for pattern in outright.rung_patterns(draw, book, 1):
                if not outright.even(book, pattern):
                    for call in (
                        lambda: top_of(book, (), pattern), lambda: alike_sortings(book, (), pattern),
                        lambda: alike_by(book, (), (), pattern), lambda: parting_of(book, (), (), pattern),
                        lambda: lets_parting(book, (), (), pattern, None), lambda: View(book, pattern),
                    ):
                        self.assertTrue(off_even(book, refused(call), pattern))
        self.assertIs(is_top(LIST, (), SHORT), False)
        self.assertIs(is_top(LIST, LAST, SHORT), True)


class Partings(unittest.TestCase):
    def test_examples(self):
        self.assertEqual(parting_of(LIST, ((0, 1), (0, 2)), (), ("ahead", 1)), ((), (0, 1)))

    def test_by_the_words(self):
        draw = random.Random(246)
        met = set()
        for book in JOINTED:
            for pattern in outright.even_patterns(draw, book, 1):
                ends = outright.last_ones(book, pattern, False)
                for one, other in drawn_pairs(draw, book, 3):
                    paper = parting_of(book, one, other, pattern)
                    met.add(paper is None)
                    self.assertIs(paper is None, ends[one] == ends[other])
                    if paper:
                        wanted = check_parting(book, one, other, pattern, paper)
                        self.assertEqual(wanted, ("gives", rope_up(book, *paper)))
                        self.assertTrue(same(refused(lets_parting, book, one, other, pattern, paper), wanted))
        self.assertEqual(met, {True, False})

    def test_papers_changed(self):
        draw = random.Random(247)
        met = set()
        for book in (LIST, PAIR, FOUR, (5, ((0, 1, 2), (2, 3, 4)))):
            found = outright.sortings(book)
            for pattern in outright.even_patterns(draw, book, 1):
                for one, other in drawn_pairs(draw, book, 3):
                    paper = parting_of(book, one, other, pattern) or (common(book, one, other)[0], draw.choice(outright.ties(book)))
                    values = list(changes(paper)) + list(outright.rebooled(paper))
                    values = draw.sample(values, min(12, len(values))) + [paper, paper[::-1], list(paper), paper[:1]]
                    values += [(draw.choice(found), draw.choice(outright.ties(book))) for _ in range(3)]
                    values += [(paper[0], tie) for tie in outright.rises(book, paper[0])]
                    for value in values:
                        wanted = check_parting(book, one, other, pattern, value)
                        met.add(wanted[1:] if wanted[0] == "InvalidPaper" else "gives")
                        outcome = refused(lets_parting, book, one, other, pattern, value)
                        self.assertTrue(same(outcome, wanted), (book, one, other, pattern, value))
        self.assertEqual(met, {("shape", -1), ("sorting", -1), ("tie", -1), ("rope", -1), "gives"})

    def test_first_that_applies(self):
        one = ((0, 1), (0, 2))
        for value, word in (
            (None, "shape"), ([(), (0, 1)], "shape"), (((), (0, 1), ()), "shape"), ((None, None), "sorting"), (([], (0, 1)), "sorting"),
            ((((0, 2),), (0, 1)), "sorting"), ((((1, 2),), None), "sorting"), ((LAST, None), "sorting"), (((), None), "tie"),
            (((), (0, 2)), "tie"), (((), (1, 2)), "tie"), ((((0, 1),), (0, 1)), "tie"), (((), (False, 1)), "tie"), (((), [0, 1]), "tie"),
            ((((0, 1),), (0, 2)), "rope"), ((((0, 1),), (1, 2)), "tie"),
        ):
            self.assertEqual(refused(lets_parting, LIST, one, (), ("ahead", 1), value), told(word, -1), value)
        self.assertEqual(lets_parting(LIST, one, (), ("ahead", 1), ((), (0, 1))), (0, 1, ()))
        self.assertEqual(lets_parting(LIST, one, (), ("none",), (((0, 1),), (0, 2))), (0, 2, (1,)))


class Finests(unittest.TestCase):
    def ways_up(self, book, low, high):
        """The lots of ropes of all sequences that only turn."""
        if low == high:
            return {()}
        return {
            tuple(sorted((rope_up(book, low, tie), *rest)))
            for tie in outright.rises(book, low) if tie in high
            for rest in self.ways_up(book, outright.flip(low, tie), high)}

    def test_by_all_sequences(self):
        """Also (G7): alike exactly if a pattern tells all of them; and that finest_alike is the same for each."""
        draw = random.Random(248)
        for book in BOOKS:
            patterns = outright.even_patterns(draw, book, 1)
            for one, other in drawn_pairs(draw, book, 8):
                ways = self.ways_up(book, *common(book, one, other))
                steps = step_ropes(book, one, other)
                self.assertIn(steps, ways)
                self.assertTrue(same(steps, tuple(steps)))
                for rung in RUNGS:
                    (wanted,) = {outright.grown_told(book, way, rung) for way in ways}
                    self.assertTrue(same(finest_alike(book, one, other, rung), wanted))
                for pattern in patterns:
                    found = set(outright.told_ropes(book, pattern))
                    alike = outright.end_of(book, one, pattern) == outright.end_of(book, other, pattern)
                    self.assertTrue(all((set(way) <= found) == alike for way in ways))
                    for rung in RUNGS:
                        if outright.on_rung(book, found, rung):
                            self.assertIs(set(finest_alike(book, one, other, rung)) <= found, alike)
        for rung in RUNGS:
            self.assertEqual((step_ropes(LIST, LAST, LAST), finest_alike(LIST, LAST, LAST, rung)), ((), ()))

    def test_more_things(self):
        draw = random.Random(249)
        for book in LARGE:
            one, other = drawn_line(draw, book), drawn_line(draw, book)
            steps = step_ropes(book, one, other)
            for rung in RUNGS:
                self.assertEqual(finest_alike(book, one, other, rung), outright.grown_told(book, steps, rung))
            self.assertIs(alike_by(book, one, other, ("ropes", finest_alike(book, one, other, "even"))), True)

    def test_wrong_inputs(self):
        for value in ODD + (((0, 1), (1, 2)), []):
            if not outright.is_sorting(LIST, value):
                for call in (step_ropes, lambda *given: finest_alike(*given, None)):
                    self.assertEqual(refused(call, LIST, value, None), ("NotUsable", "sorting", -1), value)
                    self.assertEqual(refused(call, LIST, (), value), ("NotUsable", "other", -1), value)
                self.assertEqual(refused(base_turned, LIST, value), ("NotUsable", "sorting", -1), value)
        for value in ODD + ("most", ("even",)):
            self.assertEqual(refused(finest_alike, LIST, (), LAST, value), ("NotUsable", "rung", -1), value)


class Bases(unittest.TestCase):
    def test_by_the_words(self):
        """Also (G10): by ("amid", 1) alike exactly if the same of these are turned."""
        draw = random.Random(250)
        for book in JOINTED + (FIVE,):
            wanted = tuple(tie for tie in outright.ties(book) if not outright.between(book, tie))
            self.assertTrue(same(base_ties(book), wanted))
            for one, other in drawn_pairs(draw, book, 25):
                turned = tuple(tie for tie in wanted if tie in one)
                self.assertTrue(same(base_turned(book, one), turned))
                alike = turned == tuple(tie for tie in wanted if tie in other)
                self.assertIs(alike_by(book, one, other, ("amid", 1)), alike)

    def test_wide(self):
        draw = random.Random(251)
        band = outright.band_book(40, 6)
        chain = outright.band_book(40, 2)
        for book in (band, chain):
            self.assertEqual(base_ties(book), tuple((x, x + 1) for x in range(39)))
            line = draw.sample(range(40), 40)
            one = outright.by_line(book, line)
            wanted = tuple((x, x + 1) for x in range(39) if line.index(x + 1) < line.index(x))
            self.assertEqual(base_turned(book, one), wanted)
        star = (40, tuple((0, x) for x in range(1, 40)))
        self.assertEqual(base_ties(star), outright.ties(star))
        self.assertEqual((base_ties((40, ())), base_turned((40, ()), ())), ((), ()))


class Views(unittest.TestCase):
    def test_as_the_functions(self):
        draw = random.Random(252)
        for book in JOINTED:
            for pattern in outright.even_patterns(draw, book, 1)[::3]:
                view = View(book, pattern)
                for one, other in drawn_pairs(draw, book, 3):
                    self.assertTrue(same(view.last(one), even_end(book, one, pattern)))
                    self.assertTrue(same(view.top(sorting=one), top_of(book, one, pattern)))
                    self.assertIs(view.alike(other=other, sorting=one), alike_by(book, one, other, pattern))
                    for some in ((), (one,), (one, other), (one, other, one)):
                        self.assertTrue(same(view.least(*some), least_in(book, some, pattern)))
                        self.assertTrue(same(view.greatest(*some), greatest_in(book, some, pattern)))
                self.assertTrue(same(view.told(), (book, pattern)))

    def test_equal(self):
        one = View(LIST, ("ahead", 1))
        for pattern in (("ahead", 1), ("ropes", ((0, 2, (1,)),)), ("not", ("not", ("ahead", 1))),
                        ("both", ("amid", 1), ("not", ("behind", 1))), ("above", ((0, 2, (1,)),))):
            self.assertTrue(one == View(LIST, pattern))
            self.assertTrue(View(pattern=pattern, book=LIST) == one)
            self.assertFalse(one != View(LIST, pattern))
        for other in (View(LIST, ("amid", 1)), View((3, ((0, 1), (0, 2), (1, 2))), ("ahead", 1)), None, 1, one.told(),
                      View((4, ((0, 1, 2),)), ("ahead", 1)), "one", (LIST, ("ahead", 1))):
            self.assertFalse(one == other)
            self.assertTrue(one != other)
        self.assertTrue(View((3, ()), ("all",)) == View((3, ()), ("none",)))
        self.assertTrue(View(HUGE[0], ("amid", 40)) == View(HUGE[0], ("none",)))

    def test_wrong_inputs(self):
        for book in ODD + ([3, ()], (0, ()), (3, ((0, True, 2),)), (3, [(0, 1)])):
            if not outright.is_book(book):
                self.assertEqual(refused(View, book, None), ("NotUsable", "book", -1), book)
        for book in (GAP, LOOP, outright.ring_book(6)):
            for pattern in (("all",), None, SHORT):
                outcome = refused(View, book, pattern)
                self.assertEqual(outcome[0], "Unjointed", book)
                self.assertIn(lets_joint(book, outcome[1]), ("ring", "gap"))
        for pattern in ODD + (("all", 1), ["all"], ("amid", True), ("ropes", ((0, 3, ()),)), ("ropes", [(0, 1, ())])):
            self.assertEqual(refused(View, LIST, pattern), ("NotUsable", "pattern", -1), pattern)
        view = View(LIST, ("ahead", 1))
        for value in ODD + (((0, 1), (1, 2)), ((0, 3),), [], ((False, 1),)):
            if not outright.is_sorting(LIST, value):
                for call in (view.last, view.top, lambda one: view.alike(one, None)):
                    self.assertEqual(refused(call, value), ("NotUsable", "sorting", -1), value)
                self.assertEqual(refused(view.alike, (), value), ("NotUsable", "other", -1), value)
                for call in (view.least, view.greatest):
                    self.assertEqual(refused(call, value), ("NotUsable", "sortings", -1), value)
                    self.assertEqual(refused(call, (), value, ()), ("NotUsable", "sortings", -1), value)


if __name__ == "__main__":
    unittest.main()
