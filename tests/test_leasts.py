"""[7], [11] (G2), [20], [22]: whether every two sortings have a least common one."""
import random
import unittest
from itertools import combinations, permutations

import outright
from outright import GAP, LIST, LOOP, ODD, PAIR, SMALL, changes, refused, told
from listbylist.bookchanges import kept_to
from listbylist.leasts import has_least, lets_loop, loop_of

RINGS = tuple(outright.ring_book(size) for size in (6, 7, 8))
# Four things round, five, and six, led both ways, and two rows with the same tied ends.
MORE = (
    (6, ((0, 2), (0, 3), (1, 2), (1, 3), (3, 4), (4, 5))),
    (6, ((0, 1), (1, 2), (2, 5), (0, 3), (3, 4), (4, 5), (0, 5))),
    (6, ((0, 1), (1, 5), (0, 5), (0, 2), (2, 3), (3, 5))),
    (6, ((0, 1, 5), (0, 2, 5), (3, 4))),
    (8, ((0, 4), (4, 7), (0, 7), (0, 1), (1, 2), (2, 3), (3, 7))),
)
# Two rows of four things with the same tied ends; and this with one or two ties more.
TWO_ROWS = ((0, 1), (0, 3), (0, 5), (1, 2), (2, 5), (3, 4), (4, 5))
ACROSS = tuple(tie for tie in combinations(range(6), 2) if tie not in TWO_ROWS)
CROSSED = tuple((6, TWO_ROWS + more) for many in (1, 2) for more in combinations(ACROSS, many))


def by_all_sortings(book):
    """True if every two sortings have a least one of those above both."""
    by_lines = {outright.by_line(book, line) for line in permutations(range(book[0]))}
    found = [sum(1 << k for k, tie in enumerate(outright.ties(book)) if tie in sorting) for sorting in by_lines]
    for one, other in combinations(found, 2):
        above = [mask for mask in found if mask & one == one and mask & other == other]
        if not any(all(mask & least == least for mask in above) for least in above):
            return False
    return True


def ways(ring):
    rising = sum(a < b for a, b in zip(ring, ring[1:] + ring[:1]))
    return min(rising, len(ring) - rising)


def are_rows(book, row, other):
    """True if two rows are as loop_of tells them."""
    if not (outright.is_row(book, row) and outright.is_row(book, other) and len(row) > 2 and len(other) > 2):
        return False
    if (row[0], row[-1]) != (other[0], other[-1]) or not outright.tied(book, row[0], row[-1]):
        return False
    return not set(row[1:-1]) & set(other[1:-1]) and just_tied(book, row, other)


def just_tied(book, row, other):
    allowed = {(row[0], row[-1])}
    allowed |= set(zip(row, row[1:])) | set(zip(other, other[1:]))
    things = sorted(set(row) | set(other))
    return all(pair in allowed for pair in combinations(things, 2) if outright.tied(book, *pair))


def check_loop(book, value):
    """What lets_loop gives by its words."""
    if type(value) is not tuple or not value or (value[0], len(value)) not in (("loop", 2), ("rows", 3)):
        return told("shape", -1)
    if value[0] == "loop":
        if not outright.is_ring(book, value[1]):
            return told("ring", -1)
        return ("gives", "loop") if ways(value[1]) > 1 else told("ways", -1)
    for k, row in enumerate(value[1:]):
        if not outright.is_row(book, row) or len(row) < 3:
            return told("row", k)
    row, other = value[1:]
    if (row[0], row[-1]) != (other[0], other[-1]) or not outright.tied(book, row[0], row[-1]):
        return told("ends", -1)
    if set(row[1:-1]) & set(other[1:-1]):
        return told("inner", -1)
    return ("gives", "rows") if just_tied(book, row, other) else told("tied", -1)


def all_papers(book):
    things = range(book[0])
    found = [("loop", ring) for ring in outright.rings(book) if ways(ring) > 1]
    rows = [row for row in outright.lots(things) if outright.is_row(book, row)]
    return found + [("rows", *pair) for pair in permutations(rows, 2) if are_rows(book, *pair)]


class Leasts(unittest.TestCase):
    def test_examples(self):
        self.assertIs(has_least(GAP), True)
        self.assertIs(has_least(LOOP), False)
        self.assertIs(has_least(LIST), True)
        self.assertIs(has_least(PAIR), True)
        self.assertEqual(loop_of(LOOP)[0], "loop")

    def test_by_all_sortings(self):
        found = set()
        for book in SMALL:
            if len(outright.ties(book)) <= 8:
                wanted = by_all_sortings(book)
                found.add(wanted)
                self.assertIs(has_least(book), wanted, book)
        self.assertEqual(found, {True, False})

    def test_six_things_by_all_sortings(self):
        found = set()
        for book in outright.drawn_books(30, 6, 23) + MORE[:3]:
            if len(outright.ties(book)) <= 7:
                wanted = by_all_sortings(book)
                found.add(wanted)
                self.assertIs(has_least(book), wanted, book)
        self.assertEqual(found, {True, False})

    def test_papers(self):
        for book in SMALL + MORE[:4] + CROSSED:
            paper, papers = loop_of(book), all_papers(book)
            self.assertIs(has_least(book), paper is None)
            if paper is None:
                self.assertEqual(papers, [])
            else:
                self.assertIn(paper, papers)
                self.assertEqual(lets_loop(book, paper), paper[0])

    def test_eight_things(self):
        self.assertEqual([ring for ring in map(loop_of, RINGS)], [None] * 3)
        draw = random.Random(6)
        for _ in range(40):
            lists = tuple(tuple(sorted(draw.sample(range(8), draw.choice((2, 2, 2, 3))))) for _ in range(8))
            book = (8, lists)
            paper = loop_of(book)
            if paper is not None:
                self.assertEqual(check_loop(book, paper), ("gives", paper[0]))
            else:
                rings = [ring for ring in outright.rings((8, lists))] if draw.random() < 0.1 else []
                self.assertFalse([ring for ring in rings if ways(ring) > 1])
        self.assertEqual(check_loop(MORE[4], loop_of(MORE[4])), ("gives", "rows"))

    def test_lone_ties(self):
        """[22]: rings of lone ties in the book or in what it is kept to."""
        for book in SMALL:
            found = False
            for lot in outright.lots(range(book[0])):
                kept = kept_to(book, lot) if lot else (1, ())
                lone = [tie for tie in outright.ties(kept) if len(outright.rows(kept, *tie)) == 1]
                alone = (kept[0], tuple(lone))
                for many in range(3, kept[0] + 1):
                    for ring in permutations(range(kept[0]), many):
                        if all(outright.tied(alone, a, b) for a, b in zip(ring, ring[1:] + ring[:1])):
                            found = True
                if found:
                    break
            self.assertIs(has_least(book), not found, book)


class Checker(unittest.TestCase):
    def test_by_the_words(self):
        for book in SMALL + MORE[:4]:
            rows = [row for row in outright.lots(range(book[0])) if len(row) > 2][:20]
            values = list(ODD)
            values.extend(("loop", value) for value in ODD)
            values.extend(("rows", value, (0, 1, 2)) for value in ODD)
            values.extend(("rows", *pair) for pair in outright.pairs_of(rows))
            values.extend(("loop", ring) for ring in outright.rings(book)[:40])
            for paper in all_papers(book)[:3]:
                values.append(paper)
                values.extend(changes(paper))
            for value in values:
                self.assertEqual(refused(lets_loop, book, value), check_loop(book, value), (book, value))

    def test_each_tie_across(self):
        """Of all that two rows can have tied besides, each one tie alone is refused."""
        self.assertEqual(lets_loop((6, TWO_ROWS), ("rows", (0, 1, 2, 5), (0, 3, 4, 5))), "rows")
        for tie in ACROSS:
            for rows in (((0, 1, 2, 5), (0, 3, 4, 5)), ((0, 3, 4, 5), (0, 1, 2, 5))):
                outcome = refused(lets_loop, (6, TWO_ROWS + (tie,)), ("rows", *rows))
                self.assertEqual(outcome, told("tied", -1), tie)
        for book in CROSSED[::3]:
            rows = [row for row in outright.lots(range(6)) if row[:1] + row[-1:] == (0, 5)]
            for value in permutations(rows, 2):
                value = ("rows", *value)
                self.assertEqual(refused(lets_loop, book, value), check_loop(book, value), (book, value))

    def test_first_that_applies(self):
        rows = MORE[3]
        self.assertEqual(lets_loop(rows, ("rows", (0, 1, 5), (0, 2, 5))), "rows")
        self.assertEqual(lets_loop(LOOP, ("loop", (0, 2, 1, 3))), "loop")
        for book, value, word, at in (
            (rows, ("rows", (0, 1, 5)), "shape", -1), (rows, ("loop", 1, 2), "shape", -1), (rows, "rows", "shape", -1),
            (rows, ("rows", (0, 5), (0, 5)), "row", 0), (rows, ("rows", (0, 1, 5), (0, 5)), "row", 1),
            (rows, ("rows", (0, 1, 5), (0, 3, 5)), "row", 1), (rows, ("rows", (0, True, 5), None), "row", 0),
            (rows, ("rows", (0, 1, 5), (0, 1, 5)), "inner", -1),
            ((5, ((0, 1, 2), (1, 2, 3))), ("rows", (0, 1, 2), (1, 2, 3)), "ends", -1),
            ((4, ((0, 1), (1, 3), (0, 2), (2, 3))), ("rows", (0, 1, 3), (0, 2, 3)), "ends", -1),
            ((4, ((0, 1, 2, 3),)), ("rows", (0, 1, 3), (0, 2, 3)), "tied", -1),
            ((5, ((0, 1, 2, 4), (0, 3, 4))), ("rows", (0, 1, 2, 4), (0, 3, 4)), "tied", -1),
            ((4, ((0, 1), (1, 2), (2, 3), (0, 3))), ("loop", (0, 1, 2, 3)), "ways", -1),
            (LOOP, ("loop", (0, 1, 2, 3)), "ring", -1), (PAIR, ("loop", None), "ring", -1),
        ):
            self.assertEqual(refused(lets_loop, book, value), told(word, at), (book, value))


if __name__ == "__main__":
    unittest.main()
