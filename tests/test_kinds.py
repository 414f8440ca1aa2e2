"""[2], [3], [12], [13]: integers, numbers, lots, lines; and the errors."""
import unittest

from outright import ODD, changes, is_line, is_lot
from listbylist import errors
from listbylist.kinds import is_integer, is_line as told_line, is_lot as told_lot, is_number

FIELDS = {
    "InvalidPaper": ("PaperError", ("word", "at")),
    "NotUsable": ("BookError", ("word", "at")),
    "BareRing": ("BookError", ("ring",)),
    "Unjointed": ("BookError", ("paper",)),
    "InRound": ("BookError", ("things",)),
    "Quarrel": ("BookError", ("tie",)),
    "Blocked": ("BookError", ("way",)),
    "Crossed": ("BookError", ("rope", "other")),
    "OffRung": ("BookError", ("rung", "given", "missing")),
    "Unglued": ("BookError", ("place", "other")),
    "InvalidEvent": ("LiveError", ("event", "reason")),
    "NothingToUndo": ("LiveError", ("steps",)),
    "InvalidText": ("TextError", ("line", "field")),
    "InvalidRow": ("TextError", ("row",)),
}


class Errors(unittest.TestCase):
    def test_bases(self):
        self.assertEqual(errors.ListsError.__bases__, (ValueError,))
        for name in ("PaperError", "BookError", "LiveError", "TextError"):
            self.assertEqual(getattr(errors, name).__bases__, (errors.ListsError,))
        for name, (family, _) in FIELDS.items():
            self.assertEqual(getattr(errors, name).__bases__, (getattr(errors, family),))

    def test_all_are_defined_there(self):
        own = {name for name, value in vars(errors).items() if isinstance(value, type)}
        self.assertEqual(own, {"ListsError", "PaperError", "BookError", "LiveError", "TextError", *FIELDS})

    def test_fields_are_the_very_objects(self):
        for name, (_, fields) in FIELDS.items():
            objects = [[name, k] for k in range(len(fields))]
            error = getattr(errors, name)
            by_place, by_name = error(*objects), error(**dict(zip(fields, objects)))
            for made in (by_place, by_name):
                self.assertEqual(tuple(vars(made)), fields)
                for field, value in zip(fields, objects):
                    self.assertIs(getattr(made, field), value)

    def test_just_these_fields(self):
        for name, (_, fields) in FIELDS.items():
            error = getattr(errors, name)
            self.assertRaises(TypeError, error, *range(len(fields) - 1))
            self.assertRaises(TypeError, error, *range(len(fields) + 1))

    def test_raised_and_caught(self):
        for name, (family, fields) in FIELDS.items():
            with self.assertRaises(getattr(errors, family)):
                raise getattr(errors, name)(*fields)


class Kinds(unittest.TestCase):
    def test_integer(self):
        for value in (0, 1, -1, 7, 10 ** 40, -10 ** 60):
            self.assertIs(is_integer(value), True)
        for value in (True, False, None, "", "1", (), (1,), [], [1]):
            self.assertIs(is_integer(value), False)

    def test_number(self):
        for value in (0, 1, 7, 10 ** 40):
            self.assertIs(is_number(value), True)
        for value in (-1, -10 ** 40, True, False, None, "0", (), (1,), [], [1]):
            self.assertIs(is_number(value), False)

    def test_lot_and_line_by_the_words(self):
        values = list(ODD)
        for good in ((), (0,), (1,), (0, 1), (0, 2), (0, 1, 2), (2, 0, 1), (1, 0, 2), (3, 1, 0, 2), (1, 3)):
            values.append(good)
            values.extend(changes(good))
        for size in (1, 2, 3, 4, 40):
            for value in values:
                self.assertIs(told_lot(size, value), is_lot((size, ()), value), (size, value))
                self.assertIs(told_line(size, value), is_line((size, ()), value), (size, value))

    def test_edges(self):
        self.assertIs(told_lot(3, ()), True)
        self.assertIs(told_lot(3, (0, 1, 2)), True)
        self.assertIs(told_lot(3, (0, 1, 3)), False)
        self.assertIs(told_lot(3, (0, 0)), False)
        self.assertIs(told_lot(3, [0, 1]), False)
        self.assertIs(told_line(1, (0,)), True)
        self.assertIs(told_line(1, (False,)), False)
        self.assertIs(told_line(2, (0, True)), False)
        self.assertIs(told_line(2, ()), False)
        self.assertIs(told_line(40, tuple(range(39, -1, -1))), True)

    def test_by_name(self):
        self.assertIs(is_integer(thing=1), True)
        self.assertIs(is_number(thing=-1), False)
        self.assertIs(told_lot(size=2, thing=(1,)), True)
        self.assertIs(told_line(thing=(1, 0), size=2), True)


if __name__ == "__main__":
    unittest.main()
