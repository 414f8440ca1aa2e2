"""[5], [19], [22]: well jointed or not, gaps, holes of own lists, and what follows."""
import random
import unittest
from itertools import permutations, product

import outright
from outright import GAP, LIST, LOOP, ODD, PAIR, SMALL, changes, refused, same, told
from listbylist.bookchanges import beside, kept_to, mirrored
from listbylist.fulllists import full_lists
from listbylist.joints import is_jointed, joint_of, lets_joint, one_stretch, own_hole
from listbylist.leasts import has_least
from listbylist.listtrees import list_tree
from listbylist.taking import ring_of

DRAW = random.Random(11)
WIDE = tuple(outright.grown_book(DRAW, 40, 6) for _ in range(5)) + (
    outright.band_book(40, 6), outright.ring_book(40), (40, ()), (40, ((0, 10, 39), (0, 20, 39))))


def is_gap(book, paper):
    _, tie, inner, outer = paper
    return (
        outright.is_tie(book, tie) and inner in outright.between(book, tie)
        and all(outright.tied(book, x, outer) for x in tie)
        and outer != inner and not outright.tied(book, inner, outer)
    )


def check_joint(book, value):
    """What lets_joint gives by its words."""
    if type(value) is not tuple or not value or (value[0], len(value)) not in (("ring", 2), ("gap", 4)):
        return told("shape", -1)
    if value[0] == "ring":
        return ("gives", "ring") if outright.is_ring(book, value[1]) else told("ring", -1)
    _, tie, inner, outer = value
    if not outright.is_tie(book, tie):
        return told("tie", -1)
    if not outright.is_below(book[0], inner) or inner not in outright.between(book, tie):
        return told("inner", -1)
    if not outright.is_below(book[0], outer) or not all(outright.tied(book, x, outer) for x in tie):
        return told("outer", -1)
    if outer == inner or outright.tied(book, inner, outer):
        return told("tied", -1)
    return ("gives", "gap")


def first_hole(book):
    holes = [
        (listed, low, inner, high)
        for listed, things in enumerate(book[1])
        for low, inner, high in product(range(book[0]), repeat=3)
        if low in things and high in things and low < inner < high and inner not in things
        and outright.tied(book, low, inner) and outright.tied(book, inner, high)
    ]
    return min(holes, default=None)


class Joints(unittest.TestCase):
    def test_examples(self):
        self.assertEqual((one_stretch(GAP, 0, 1), one_stretch(GAP, 1, 0)), (False, True))
        self.assertEqual(joint_of(GAP), ("gap", (0, 2), 1, 3))
        self.assertEqual(own_hole((3, ((0, 1), (1, 2), (0, 2)))), (2, 0, 1, 2))
        self.assertIs(is_jointed(PAIR), True)
        self.assertIs(is_jointed(GAP), False)
        self.assertIs(is_jointed(LOOP), False)

    def test_by_the_words(self):
        found = set()
        for book in SMALL:
            jointed = outright.jointed(book)
            found.add(jointed)
            self.assertIs(is_jointed(book), jointed, book)
            paper = joint_of(book)
            if jointed:
                self.assertIsNone(paper)
            elif paper[0] == "ring":
                self.assertTrue(len(paper) == 2 and outright.is_ring(book, paper[1]))
            else:
                self.assertTrue(paper[0] == "gap" and is_gap(book, paper))
        self.assertEqual(found, {True, False})

    def test_stretches(self):
        for book in SMALL:
            lists = outright.full(book)
            for place, other in permutations(range(len(lists)), 2):
                shared = [x for x in lists[place] if x in lists[other]]
                wanted = outright.in_stretch(lists[place], shared)
                self.assertIs(one_stretch(book, place, other), wanted)
        self.assertIs(one_stretch((4, ((0, 1), (2, 3))), 0, 1), True)
        self.assertEqual(refused(one_stretch, GAP, 2, 2), ("NotUsable", "place", -1))
        self.assertEqual(refused(one_stretch, GAP, 0, 0), ("NotUsable", "other", -1))
        self.assertEqual(refused(one_stretch, GAP, 0, True), ("NotUsable", "other", -1))

    def test_wide(self):
        for book in WIDE:
            paper = joint_of(book)
            self.assertIs(is_jointed(book), paper is None)
            if paper is None:
                lists = full_lists(book)
                for place, other in list_tree(book):
                    self.assertTrue(one_stretch(book, place, other) and one_stretch(book, other, place))
                self.assertEqual(len(lists), len(set(lists)))
            else:
                self.assertEqual(lets_joint(book, paper), paper[0])
        self.assertIs(is_jointed(WIDE[5]), True)
        self.assertEqual(joint_of(WIDE[6])[0], "ring")
        self.assertEqual(joint_of(WIDE[8]), ("gap", (0, 39), 10, 20))
        self.assertEqual(own_hole(WIDE[8]), (0, 0, 20, 39))

    def test_own_hole(self):
        for book in SMALL:
            self.assertTrue(same(own_hole(book), first_hole(book)), book)
        # The thing between comes ahead of the high in the sequence.
        self.assertEqual(own_hole((5, ((0, 3, 4), (0, 1, 4), (0, 2, 3)))), (0, 0, 1, 4))

    def test_checker_by_the_words(self):
        for book in SMALL:
            if book[0] > 4 and book not in SMALL[:30]:
                continue
            things = range(book[0])
            values = list(ODD)
            values.extend(("ring", value) for value in ODD)
            values.extend(("ring", ring) for ring in outright.rings(book))
            values.extend(
                ("gap", tie, inner, outer)
                for tie in outright.ties(book) for inner in things for outer in things)
            for value in values:
                self.assertEqual(refused(lets_joint, book, value), check_joint(book, value), (book, value))
            paper = joint_of(book)
            if paper is not None:
                self.assertEqual(lets_joint(book, paper), paper[0])
                for value in changes(paper):
                    self.assertEqual(refused(lets_joint, book, value), check_joint(book, value), (book, value))

    def test_first_that_applies(self):
        for value, word in (
            (("gap", (0, 2), 1), "shape"), (("gap", (0, 2), 1, 3, 3), "shape"), (["gap", (0, 2), 1, 3], "shape"),
            (("ring",), "shape"), (("ring", (0, 1, 2, 3), 1), "shape"), (("rings", (0, 1, 2, 3)), "shape"),
            (("gap", (1, 3), None, None), "tie"), (("gap", (0, 2), True, None), "inner"),
            (("gap", (0, 2), 3, 3), "inner"), (("gap", (0, 2), 1, True), "outer"), (("gap", (0, 2), 1, 0), "outer"),
            (("gap", (0, 2), 1, 1), "tied"), (("gap", (0, 3), 2, 2), "tied"), (("ring", (0, 1, 2, 3)), "ring"),
        ):
            self.assertEqual(refused(lets_joint, GAP, value), told(word, -1), value)
        self.assertEqual(lets_joint(GAP, ("gap", (0, 2), 1, 3)), "gap")
        self.assertEqual(lets_joint(LOOP, ("ring", (3, 1, 2, 0))), "ring")
        self.assertEqual(refused(lets_joint, PAIR, ("gap", (0, 2), 1, 1)), told("tied", -1))


class Consequences(unittest.TestCase):
    def test_jointed_by_any_one_tree(self):
        for book in SMALL:
            if ring_of(book) is None:
                self.assertLessEqual(len(full_lists(book)), book[0])
                both = [
                    one_stretch(book, place, other) and one_stretch(book, other, place)
                    for place, other in list_tree(book)
                ]
                self.assertIs(is_jointed(book), all(both))

    def test_kept_books_are_jointed(self):
        for book in SMALL:
            if is_jointed(book):
                self.assertIs(has_least(book), True)
                for lot in outright.lots(range(book[0])):
                    if lot:
                        self.assertIs(is_jointed(kept_to(book, lot)), True)

    def test_own_lists(self):
        for book in SMALL:
            if own_hole(book) is None:
                for things in full_lists(book):
                    self.assertTrue(len(things) == 1 or things in book[1])

    def test_beside_and_mirrored(self):
        for book in SMALL:
            self.assertIs(is_jointed(mirrored(book)), is_jointed(book))
            self.assertIs(has_least(mirrored(book)), has_least(book))
            for other in (LIST, GAP, LOOP, (1, ())):
                self.assertIs(is_jointed(beside(book, other)), is_jointed(book) and is_jointed(other))


if __name__ == "__main__":
    unittest.main()
