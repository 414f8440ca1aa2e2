"""[21]: books as lines, and Book objects."""
import random
import unittest

import outright
from outright import GAP, LIST, LOOP, ODD, PAIR, SMALL, refused
from listbylist import bookchanges, books, fulllists, joints
from listbylist.bookclasses import Book
from listbylist.booktexts import book_line, read_book

WIDE = (outright.band_book(40, 6), outright.ring_book(40), (40, ()))


def field_fault(text):
    """The first field of a text that is not so, or None, by going through the fields."""
    fields = text.split(" ")
    size, in_list, first = None, False, None
    for at, field in enumerate(fields):
        ends = field.endswith(";")
        word = field[:-1] if ends else field
        if word == "" or set(word) - set("0123456789") or (len(word) > 1 and word[0] == "0"):
            return at
        number = int(word)
        if size is None:
            if number < 1:
                return at
            size = number
        elif not in_list or number >= size:
            return at
        elif first is None:
            if ends:
                return at
            first, last, many = number, number, 1
        elif number <= last:
            return at
        else:
            last, many = number, many + 1
        if ends:
            in_list, first, many = True, None, 0
    if in_list and many < 2:
        return len(fields)
    return None


class Lines(unittest.TestCase):
    def test_examples(self):
        self.assertEqual(book_line(PAIR), "4; 0 1 2; 1 2 3")
        self.assertEqual(book_line((1, ())), "1")
        self.assertEqual(read_book("3; 0 2"), (3, ((0, 2),)))

    def test_there_and_back(self):
        for book in SMALL + WIDE:
            line = book_line(book)
            wanted = str(book[0]) + "".join("; " + " ".join(map(str, things)) for things in book[1])
            self.assertEqual(line, wanted)
            self.assertTrue(outright.same(read_book(line), book))
        self.assertEqual(read_book(text="2"), (2, ()))

    def test_no_string(self):
        for value in (None, 3, True, (), ("3",), ["3"], b"3"):
            self.assertEqual(refused(read_book, value), ("NotUsable", "text", -1))

    def test_first_field(self):
        for text, field in (
            ("", 0), (" ", 0), ("0", 0), ("00", 0), ("01", 0), ("-1", 0), ("+1", 0), ("x", 0), (";", 0), ("3;;", 0),
            ("3 ", 1), ("3 ;", 1), ("3 0 1", 1), (" 3", 0), ("3;", 1), ("3; ", 1), ("3;  0 1", 1), ("3; 0", 2),
            ("3; 0; 1", 1), ("3; 0 3", 2), ("3; 3 1", 1), ("3; 0 1;", 3), ("3; 0 1; 2", 4), ("3; 0 0", 2),
            ("3; 1 0", 2), ("3; 0 01", 2), ("3; 0 1 ;", 3), ("3; 0 1;1 2", 2), ("3; 0 1; ", 3), ("3; 0  1", 2),
            ("3; 0 1 2 3", 4), ("0; 0 0", 0), ("3; 0 1; 0 2 1", 5), ("3; 0 1,", 2), ("3; 0 1; 0 2;", 5),
            ("3; 0 " + "9" * 40, 2), ("3;0 1", 0), ("3_0", 0), ("3; 0 1;; 0 2", 2), ("1; 0", 2), ("1; 0 0", 2),
        ):
            self.assertEqual(refused(read_book, text), ("InvalidText", 0, field), text)

    def test_drawn_texts(self):
        draw = random.Random(7)
        words = ["0", "1", "2", "3", "0;", "1;", "2;", "3;", "4;", "5", "01", "", ";", "x"]
        outcomes = set()
        for _ in range(6000):
            text = " ".join([draw.choice(("4", "4;", "4;", "4;", draw.choice(words)))] + [
                draw.choice(words[:9] if draw.random() < 0.9 else words) for _ in range(draw.randrange(0, 7))])
            fault = field_fault(text)
            outcome = refused(read_book, text)
            outcomes.add(fault is None)
            if fault is None:
                self.assertEqual(outcome[0], "gives", text)
                self.assertEqual(book_line(outcome[1]), text)
            else:
                self.assertEqual(outcome, ("InvalidText", 0, fault), text)
        self.assertEqual(outcomes, {True, False})

    def test_changed_lines(self):
        for book in (PAIR, GAP, LOOP, (5, ((1, 3),))):
            line = book_line(book)
            for k in range(len(line)):
                for put in ("", " ", ";", "0", "1", "9", "; ", "-", "  "):
                    for text in (line[:k] + put + line[k:], line[:k] + put + line[k + 1:]):
                        fault = field_fault(text)
                        outcome = refused(read_book, text)
                        if fault is None:
                            self.assertEqual(book_line(outcome[1]), text)
                        else:
                            self.assertEqual(outcome, ("InvalidText", 0, fault), text)


class Objects(unittest.TestCase):
    def test_made(self):
        for book in SMALL + WIDE:
            made = Book(book[0], *book[1])
            self.assertTrue(outright.same(made.told(), book))
            self.assertEqual(len(made), len(book[1]))
        self.assertEqual(Book(4, (2, 0, 1), (3, 2, 1)).told(), PAIR)
        self.assertEqual(Book(size=2).told(), (2, ()))
        self.assertEqual(refused(Book, True), ("NotUsable", "size", -1))
        self.assertEqual(refused(Book, 3, (0, 1), (0, 0), 7), ("NotUsable", "lists", 1))

    def test_equal(self):
        self.assertTrue(Book(3, (0, 1)) == Book(3, (1, 0)))
        self.assertFalse(Book(3, (0, 1)) != Book(3, (1, 0)))
        self.assertFalse(Book(3, (0, 1)) == Book(3, (0, 2)))
        self.assertFalse(Book(3) == Book(4))
        self.assertFalse(Book(3, (0, 1), (1, 2)) == Book(3, (1, 2), (0, 1)))
        for value in ODD + ((3, ((0, 1),)), LIST):
            self.assertIs(Book(3, (0, 1)) == value, False)
            self.assertIs(value == Book(3, (0, 1)), False)

    def test_beside(self):
        for book in SMALL:
            for other in (PAIR, (1, ()), GAP):
                both = Book(book[0], *book[1]) + Book(other[0], *other[1])
                self.assertIs(type(both), Book)
                self.assertEqual(both.told(), bookchanges.beside(book, other))
        for value in ODD + (LIST,):
            self.assertEqual(refused(lambda: Book(3) + value), ("NotUsable", "other", -1))

    def test_asked(self):
        for book in SMALL + WIDE[:1] + WIDE[2:]:
            made = Book(book[0], *book[1])
            self.assertEqual(made.ties(), books.ties_of(book))
            self.assertEqual(made.full(), fulllists.full_lists(book))
            self.assertIs(made.jointed(), joints.is_jointed(book))
            lot = tuple(range(0, book[0], 2))
            kept = made.kept(lot)
            self.assertIs(type(kept), Book)
            self.assertEqual(kept.told(), bookchanges.kept_to(book, lot))
            if book[0] > 1:
                grown = made.grown((1, 0))
                self.assertIs(type(grown), Book)
                self.assertEqual(grown.told(), bookchanges.with_list(book, (1, 0)))
            self.assertEqual(made.told(), book)
        self.assertIs(Book(*outright.ring_book(40)[:1], *outright.ring_book(40)[1]).jointed(), False)

    def test_refused(self):
        made = Book(4, (0, 1, 2), (1, 2, 3))
        for value in ODD + ((), (1, 0), (4,), [0]):
            if not outright.is_lot(PAIR, value) or value == ():
                self.assertEqual(refused(made.kept, value), ("NotUsable", "lot", -1), value)
        for value in (None, (), (1,), (1, 1), (0, True), [0, 1], "01", (0, 4)):
            self.assertEqual(refused(made.grown, value), ("NotUsable", "things", -1))
        self.assertEqual(made.kept(lot=(0,)).told(), (1, ()))
        self.assertEqual(len(made.grown(things=(3, 0))), 3)
        self.assertEqual(made.told(), PAIR)
        self.assertEqual(len(made), 2)

    def test_methods_are_its_own(self):
        for name in ("__init__", "__len__", "__eq__", "__add__", "ties", "full", "jointed", "kept", "grown", "told"):
            self.assertIn(name, vars(Book))


if __name__ == "__main__":
    unittest.main()
