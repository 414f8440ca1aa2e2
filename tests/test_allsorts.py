"""[5], [6], [30], [31], [32]: all sortings, sortings of other books, texts, Sorting objects."""
import random
import unittest
from itertools import permutations, product

import outright
from outright import GAP, LIST, LOOP, ODD, PAIR, SMALL, THREE, refused, same, told_by
from listbylist.alls import all_sortings, is_beneath
from listbylist.bookchanges import kept_to, mirrored, rebased
from listbylist.exchanging import exchanged
from listbylist.listorders import orders_of
from listbylist.opens import falls_of, rises_of
from listbylist.sortclasses import Sorting
from listbylist.sortlines import line_of, sorting_of
from listbylist.sorttexts import read_sorting, sorting_line
from listbylist.sortturns import carried, mirrored_sorting, rebased_sorting, restricted, turned_over


class Alls(unittest.TestCase):
    def test_examples(self):
        wanted = [(), ((0, 1),), ((0, 1), (1, 2)), ((1, 2),)]
        self.assertEqual(list(all_sortings((3, ((0, 1), (1, 2))))), wanted)
        self.assertEqual(len(list(all_sortings(LIST))), 6)
        self.assertEqual(len(list(all_sortings(PAIR))), 18)
        self.assertEqual(list(all_sortings((4, ()))), [()])

    def test_by_all_lots_of_ties(self):
        for book in SMALL:
            self.assertTrue(same(list(all_sortings(book)), outright.sortings(book)))

    def test_generator(self):
        some = all_sortings(LIST)
        self.assertIs(iter(some), some)
        self.assertEqual((next(some), next(some)), ((), ((0, 1),)))
        self.assertEqual(len(list(some)), 4)
        self.assertEqual(next(all_sortings(book=LOOP)), ())

    def test_up_to_two_hundred(self):
        for book in ((8, tuple((x, x + 1) for x in range(7))), (5, ((0, 1, 2, 3, 4),)), (10, ((0, 1), (2, 9)))):
            found = list(all_sortings(book))
            self.assertEqual(found, sorted(set(found)))
            self.assertFalse(any(outright.in_round(book, sorting) for sorting in found))
        self.assertEqual(len(list(all_sortings((5, ((0, 1, 2, 3, 4),))))), 120)
        self.assertEqual(len(list(all_sortings((8, tuple((x, x + 1) for x in range(7)))))), 128)

    def test_beneath(self):
        for book in SMALL:
            found = outright.sortings(book)
            for one, other in list(product(found, found))[::7]:
                self.assertIs(is_beneath(book, one, other), set(one) <= set(other))
            self.assertIs(is_beneath(book, found[-1], found[-1]), True)


class Turns(unittest.TestCase):
    def test_examples(self):
        self.assertEqual(turned_over(LIST, ((0, 1),)), ((0, 2), (1, 2)))
        self.assertEqual(restricted(PAIR, ((0, 1), (2, 3)), (1, 2, 3)), ((1, 2),))
        self.assertEqual(mirrored_sorting(PAIR, ((0, 1),)), ((2, 3),))
        self.assertEqual(rebased_sorting(LIST, ((0, 1),), (2, 0, 1)), ((0, 1), (0, 2), (1, 2)))
        self.assertEqual(carried((3, ((0, 2), (1, 2))), ((0, 2),), LIST), ((0, 1), (0, 2)))

    def test_turned_over(self):
        for book in SMALL:
            for sorting in outright.sortings(book):
                over = turned_over(book, sorting)
                self.assertTrue(same(over, tuple(tie for tie in outright.ties(book) if tie not in sorting)))
                self.assertEqual(turned_over(book, over), sorting)
                self.assertEqual(falls_of(book, sorting), rises_of(book, over))
                self.assertEqual(rises_of(book, sorting), falls_of(book, over))

    def test_restricted(self):
        for book in SMALL:
            for sorting in outright.sortings(book)[::4]:
                for lot in outright.lots(range(book[0])):
                    if lot:
                        wanted = tuple(
                            (x, y) for x, y in outright.ties(kept_to(book, lot))
                            if not outright.ahead(sorting, lot[x], lot[y]))
                        self.assertTrue(same(restricted(book, sorting, lot), wanted))
        self.assertEqual(refused(restricted, PAIR, (), ()), ("NotUsable", "lot", -1))

    def test_mirrored(self):
        for book in SMALL:
            last = book[0] - 1
            for sorting in outright.sortings(book):
                over = mirrored_sorting(book, sorting)
                wanted = tuple(tie for tie in outright.ties(mirrored(book)) if (last - tie[1], last - tie[0]) in sorting)
                self.assertTrue(same(over, wanted))
                self.assertTrue(outright.is_sorting(mirrored(book), over))
                self.assertEqual(mirrored_sorting(mirrored(book), over), sorting)

    def test_rebased(self):
        draw = random.Random(3)
        for book in SMALL:
            lines = list(permutations(range(book[0])))
            for sorting in outright.sortings(book)[::4]:
                line = draw.choice(lines)
                wanted = tuple(
                    (x, y) for x, y in outright.ties(rebased(book, line))
                    if not outright.ahead(sorting, line[x], line[y]))
                self.assertTrue(same(rebased_sorting(book, sorting, line), wanted))

    def test_carried(self):
        for book in SMALL:
            for other in SMALL:
                if other[0] != book[0]:
                    continue
                for sorting in outright.sortings(book)[::9]:
                    over = carried(book, sorting, other)
                    self.assertTrue(same(over, outright.by_line(other, line_of(book, sorting))))
                    for tie in set(outright.ties(book)) & set(outright.ties(other)):
                        self.assertEqual(tie in sorting, tie in over)
        for other in ODD + ((3, ()), (5, ()), [4, ()], (4, [(0, 1)]), (4, ((0, True),)), ()):
            self.assertEqual(refused(carried, PAIR, (), other), ("NotUsable", "other", -1), other)

    def test_beneath_stays(self):
        """[32]: turned over, what was beneath is above; mirrored or restricted it stays so."""
        draw = random.Random(4)
        for book in SMALL:
            found = outright.sortings(book)
            for _ in range(12):
                one, other = sorted((draw.choice(found), draw.choice(found)), key=len)
                beneath = is_beneath(book, one, other)
                self.assertIs(is_beneath(book, turned_over(book, other), turned_over(book, one)), beneath)
                self.assertIs(
                    is_beneath(mirrored(book), mirrored_sorting(book, one), mirrored_sorting(book, other)), beneath)
                lot = tuple(sorted(draw.sample(range(book[0]), draw.randrange(1, book[0] + 1))))
                if beneath:
                    self.assertIs(
                        is_beneath(kept_to(book, lot), restricted(book, one, lot), restricted(book, other, lot)),
                        True)


def text_fault(book, text):
    """(line, field) of the first field that can't stand there or is missing, or None."""
    fields = text.split(" ") if text else []
    if not book[1]:
        return (0, 0) if fields else None
    at = 0
    for line, things in enumerate(book[1]):
        seen = []
        for field in range(len(things)):
            ends = ";" if field == len(things) - 1 and line < len(book[1]) - 1 else ""
            left = {str(x) + ends: x for x in things if x not in seen}
            if at >= len(fields) or fields[at] not in left:
                return (line, field)
            seen.append(left[fields[at]])
            at += 1
    return (len(book[1]) - 1, len(book[1][-1])) if at < len(fields) else None


class Texts(unittest.TestCase):
    def test_examples(self):
        self.assertEqual(sorting_line(PAIR, ((0, 1),)), "1 0 2; 1 2 3")
        self.assertEqual(read_sorting(PAIR, "1 0 2; 1 2 3"), ((0, 1),))
        self.assertEqual(sorting_line((3, ()), ()), "")
        self.assertEqual(read_sorting((3, ()), ""), ())

    def test_there_and_back(self):
        for book in SMALL:
            for sorting in outright.sortings(book):
                line = sorting_line(book, sorting)
                parts = [[int(x) for x in part.split(" ")] for part in line.split("; ")] if book[1] else []
                self.assertEqual([sorted(part) for part in parts], [list(things) for things in book[1]])
                for part in parts:
                    for k, x in enumerate(part):
                        self.assertTrue(all(outright.ahead(sorting, x, y) for y in part[k + 1:]))
                self.assertEqual("; ".join(" ".join(map(str, part)) for part in parts), line)
                self.assertTrue(same(read_sorting(book, line), sorting))

    def test_first_field(self):
        for book, text, line, field in (
            (PAIR, "", 0, 0), (PAIR, " ", 0, 0), (PAIR, "0", 0, 1), (PAIR, "0 1 2;", 1, 0), (PAIR, "0 1 2", 0, 2),
            (PAIR, "0 1 2; ", 1, 0), (PAIR, "0 1 2; 1 2", 1, 2), (PAIR, "0 1 2; 1 2 3;", 1, 2),
            (PAIR, "0 1 2; 1 2 3 ", 1, 3), (PAIR, "0 1 2; 1 2 3 1 1", 1, 3), (PAIR, "0 1 2; 1 2 3; 0", 1, 2),
            (PAIR, "0 1; 2; 1 2 3", 0, 1), (PAIR, "0 0 2; 1 2 3", 0, 1), (PAIR, "0 1 3; 1 2 3", 0, 2),
            (PAIR, "00 1 2; 1 2 3", 0, 0), (PAIR, "0 1 2 ; 1 2 3", 0, 2), (PAIR, "0 1 2;1 2 3", 0, 2),
            (PAIR, "0 1 2; 1 2 0", 1, 2), (PAIR, "0  1 2; 1 2 3", 0, 1), (PAIR, " 0 1 2; 1 2 3", 0, 0),
            (PAIR, "0 1 2; 1 1 3", 1, 1), (LIST, "0 1 2;", 0, 2), (LIST, "0 1 2 ", 0, 3), (LIST, "+0 1 2", 0, 0),
            ((3, ()), "0", 0, 0), ((3, ()), " ", 0, 0), ((3, ()), ";", 0, 0), ((3, ()), "0 1 2; 3", 0, 0),
            (THREE, "1 0; 2 0 1 2", 1, 1), (THREE, "1 0; 2 0; 1 2; 1 2", 2, 1), (THREE, "1 0 2 0 1 2", 0, 1),
        ):
            self.assertEqual(refused(read_sorting, book, text), ("InvalidText", line, field), (book, text))

    def test_drawn_and_changed(self):
        draw = random.Random(12)
        outcomes = set()
        for book in SMALL:
            for _ in range(120):
                orders = [draw.sample(things, len(things)) for things in book[1]]
                text = "; ".join(" ".join(map(str, order)) for order in orders)
                if draw.random() < 0.6:
                    k = draw.randrange(len(text) + 1)
                    put = draw.choice(("", " ", ";", "0", "1", "3", " 1", "; ", "x", "-"))
                    text = text[:k] + put + text[k + draw.randrange(2):]
                fault, outcome = text_fault(book, text), refused(read_sorting, book, text)
                if fault is not None:
                    outcomes.add("InvalidText")
                    self.assertEqual(outcome, ("InvalidText", *fault), (book, text))
                    continue
                orders = tuple(
                    tuple(int(x) for x in part.split(" ")) for part in text.split("; ")) if text else ()
                wanted = told_by(book, orders)
                outcomes.add(wanted[0])
                self.assertEqual(outcome[:len(wanted)], wanted, (book, text))
                if wanted[0] == "InRound":
                    turned = tuple(sorted(
                        tie for tie in outright.ties(book)
                        if any(tie[0] in x and tie[1] in x and x.index(tie[1]) < x.index(tie[0]) for x in orders)))
                    self.assertTrue(outright.is_round(book, turned, outcome[1]))
        self.assertEqual(outcomes, {"gives", "InvalidText", "Quarrel", "InRound"})

    def test_quarrel_and_round(self):
        self.assertEqual(refused(read_sorting, PAIR, "2 1 0; 1 2 3"), ("Quarrel", (1, 2)))
        self.assertEqual(sorted(refused(read_sorting, THREE, "1 0; 0 2; 2 1")[1]), [0, 1, 2])
        book = (4, ((0, 1), (1, 2), (0, 2), (2, 3), (2, 3)))
        self.assertEqual(refused(read_sorting, book, "1 0; 2 1; 0 2; 2 3; 3 2"), ("Quarrel", (2, 3)))
        for value in ODD + (b"0 1 2",):
            if not isinstance(value, str):
                self.assertEqual(refused(read_sorting, PAIR, value), ("NotUsable", "text", -1))


class Objects(unittest.TestCase):
    def test_example(self):
        self.assertEqual(Sorting(PAIR, (1, 0, 2, 3)).moved((0, 2)).told()[1], ((0, 1), (0, 2)))

    def test_asked(self):
        draw = random.Random(13)
        for book in SMALL:
            lines = list(permutations(range(book[0])))
            for line in draw.sample(lines, min(6, len(lines))):
                made, sorting = Sorting(book, line), sorting_of(book, line)
                self.assertTrue(same(made.told(), (book, sorting)))
                self.assertEqual(made.falls(), falls_of(book, sorting))
                self.assertEqual(made.rises(), rises_of(book, sorting))
                self.assertEqual(made.orders(), orders_of(book, sorting))
                for tie in outright.ties(book):
                    outcome, wanted = refused(made.moved, tie), refused(exchanged, book, sorting, tie)
                    if wanted[0] == "gives":
                        self.assertIs(type(outcome[1]), Sorting)
                        self.assertEqual(outcome[1].told(), (book, wanted[1]))
                    else:
                        self.assertEqual(outcome[0], "Blocked")
                for other_line in draw.sample(lines, min(6, len(lines))):
                    other, over = Sorting(book, other_line), sorting_of(book, other_line)
                    self.assertEqual(made.apart(other), len(set(sorting) ^ set(over)))
                    self.assertIs(made.beneath(other), set(sorting) <= set(over))
                    self.assertIs(made == other, sorting == over)
                    self.assertIs(made != other, sorting != over)
                self.assertEqual(made.told(), (book, sorting))

    def test_equal(self):
        self.assertTrue(Sorting(PAIR, (0, 1, 2, 3)) == Sorting(book=PAIR, line=(0, 1, 2, 3)))
        self.assertTrue(Sorting((3, ((0, 1),)), (0, 1, 2)) == Sorting((3, ((0, 1),)), (2, 0, 1)))
        self.assertFalse(Sorting(LIST, (0, 1, 2)) == Sorting(THREE, (0, 1, 2)))
        for value in ODD + ((), (LIST, ()), LIST):
            self.assertIs(Sorting(LIST, (0, 1, 2)) == value, False)

    def test_refused(self):
        for value in ODD + ([3, ()], (0, ()), (3, [(0, 1)]), (3, ((0, True),))):
            self.assertEqual(refused(Sorting, value, None), ("NotUsable", "book", -1), value)
        for value in ODD + ((0, 1, 2, 2), (0, 1, 3), (True, 0, 2), [0, 1, 2]):
            self.assertEqual(refused(Sorting, LIST, value), ("NotUsable", "line", -1), value)
        made = Sorting(LIST, (1, 0, 2))
        for value in ODD + ((0, 3), [0, 1], (0, True), (1, 0)):
            if not outright.is_tie(LIST, value):
                self.assertEqual(refused(made.moved, value), ("NotUsable", "tie", -1), value)
        for value in ODD + ((), LIST, (LIST, ()), Sorting(THREE, (0, 1, 2)), Sorting(PAIR, (0, 1, 2, 3))):
            self.assertEqual(refused(made.apart, value), ("NotUsable", "other", -1))
            self.assertEqual(refused(made.beneath, value), ("NotUsable", "other", -1))
        self.assertEqual(refused(made.moved, (1, 2))[0], "Blocked")
        self.assertEqual(made.told(), (LIST, ((0, 1),)))
        self.assertEqual(made.apart(other=made), 0)
        self.assertEqual(made.moved(tie=(0, 1)).told(), (LIST, ()))

    def test_methods_are_its_own(self):
        for name in ("__init__", "__eq__", "falls", "rises", "orders", "told", "moved", "apart", "beneath"):
            self.assertIn(name, vars(Sorting))

    def test_lists_do_not_matter_but_for_the_book(self):
        self.assertEqual(Sorting(GAP, (2, 0, 1, 3)).told(), (GAP, ((0, 2), (1, 2))))
        self.assertEqual(Sorting(LOOP, (3, 2, 1, 0)).falls(), LOOP[1])


if __name__ == "__main__":
    unittest.main()
