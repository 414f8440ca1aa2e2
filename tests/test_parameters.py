"""[2], [12]: what is not as stated is refused, the first in the sequence of the parameters; nothing is changed."""
import copy
import random
import unittest

import outright
from outright import GAP, LIST, LOOP, ODD, PAIR, THREE, refused
from listbylist import (
    alls, bookchanges, books, closures, exchanging, fulllists, joints, listmerges, listorders, merging, opens, rounds,
    sortlines, sorttexts, sortturns, stepping, ways, whychecker, whyrows)

ROUND = ((0, 1), (1, 2))
MORE = ODD + (
    ROUND, (ROUND,), ((), ROUND), [()], ([],), ((), [(0, 1)]), ((), ((0, True),)), (((0, 1),), ((1, 0),)), (((0, 3),),),
    ((0, 1), (0, 2), (1, 2), (1, 2)), (0, 1, 2, 3, 3), [0, 1, 2, 3], (0, 1, 2, 3, True), (3, 2, 1, 0), (0, 1, 2), 0, 1,
    2, 3, 4, 5, (), (0,), (1,), (4,), (0, 1), (0, 3), (0, 4), ((0, 1),), ((0, 3),), ((0, 2), (0, 3)), ((),), ((), ()),
    ((0, 1, 2), (1, 2, 3)), ((0, 1, 2), (0, 2, 3)), (LIST,), LIST, PAIR, (4, ()), (4, [])
)

# What each parameter may be: given the book, the values ahead by name, and the value.
STATED = {
    "here": lambda book, told, value: outright.is_below(book[0], value),
    "there": lambda book, told, value: outright.is_below(book[0], value) and value != told["here"],
    "tie": lambda book, told, value: outright.is_tie(book, value),
    "lot": lambda book, told, value: outright.is_lot(book, value),
    "some": lambda book, told, value: outright.is_lot(book, value) and value != (),
    "line": lambda book, told, value: outright.is_line(book, value),
    "sorting": lambda book, told, value: outright.is_sorting(book, value),
    "sortings": lambda book, told, value: outright.is_sortings(book, value),
    "ties": lambda book, told, value: outright.is_ties(book, value),
    "steps": lambda book, told, value: type(value) is tuple and all(outright.is_tie(book, x) for x in value),
    "place": lambda book, told, value: outright.is_below(len(outright.full(book)), value),
    "place_other": lambda book, told, value: (
        outright.is_below(len(outright.full(book)), value) and value != told["place"]),
    "book": lambda book, told, value: outright.is_book(value),
    "book_alike": lambda book, told, value: outright.is_book(value) and value[0] == book[0],
    "listed": lambda book, told, value: outright.is_below(len(book[1]), value),
    "things": lambda book, told, value: (
        type(value) is tuple and len(value) > 1 and all(outright.is_below(book[0], x) for x in value)
        and len(set(value)) == len(value)),
    "text": lambda book, told, value: type(value) is str,
}
CALLS = (
    (books.is_tied, (("here", "here"), ("there", "there"))),
    (books.near_of, (("here", "here"),)),
    (books.between_of, (("tie", "tie"),)),
    (bookchanges.kept_to, (("lot", "some"),)),
    (bookchanges.with_list, (("things", "things"),)),
    (bookchanges.without_list, (("listed", "listed"),)),
    (bookchanges.beside, (("other", "book"),)),
    (bookchanges.rebased, (("line", "line"),)),
    (fulllists.full_with, (("lot", "lot"),)),
    (fulllists.shared_by, (("place", "place"), ("other", "place_other"))),
    (joints.one_stretch, (("place", "place"), ("other", "place_other"))),
    (rounds.round_of, (("ties", "ties"),)),
    (rounds.lets_round, (("ties", "ties"),)),
    (sortlines.sorting_of, (("line", "line"),)),
    (sortlines.fits_line, (("sorting", "sorting"), ("line", "line"))),
    (sortlines.line_of, (("sorting", "sorting"),)),
    (ways.leads, (("sorting", "sorting"), ("here", "here"), ("there", "there"))),
    (ways.way_of, (("sorting", "sorting"), ("here", "here"), ("there", "there"))),
    (listorders.orders_of, (("sorting", "sorting"),)),
    (listorders.own_orders, (("sorting", "sorting"),)),
    (opens.open_ties, (("sorting", "sorting"),)),
    (opens.falls_of, (("sorting", "sorting"),)),
    (opens.rises_of, (("sorting", "sorting"),)),
    (opens.bars_of, (("sorting", "sorting"), ("tie", "tie"))),
    (exchanging.exchanged, (("sorting", "sorting"), ("tie", "tie"))),
    (exchanging.put_first, (("sorting", "sorting"), ("here", "here"))),
    (exchanging.put_last, (("sorting", "sorting"), ("here", "here"))),
    (stepping.differing, (("sorting", "sorting"), ("other", "sorting"))),
    (stepping.steps_between, (("sorting", "sorting"), ("other", "sorting"))),
    (stepping.stepped, (("sorting", "sorting"), ("steps", "steps"))),
    (stepping.lets_steps, (("sorting", "sorting"), ("other", "sorting"))),
    (alls.is_beneath, (("sorting", "sorting"), ("other", "sorting"))),
    (sortturns.turned_over, (("sorting", "sorting"),)),
    (sortturns.restricted, (("sorting", "sorting"), ("lot", "some"))),
    (sortturns.mirrored_sorting, (("sorting", "sorting"),)),
    (sortturns.rebased_sorting, (("sorting", "sorting"), ("line", "line"))),
    (sortturns.carried, (("sorting", "sorting"), ("other", "book_alike"))),
    (sorttexts.sorting_line, (("sorting", "sorting"),)),
    (sorttexts.read_sorting, (("text", "text"),)),
    (closures.closure_of, (("ties", "ties"),)),
    (merging.least_common, (("sortings", "sortings"),)),
    (merging.greatest_common, (("sortings", "sortings"),)),
    (whyrows.why_turned, (("sortings", "sortings"), ("tie", "tie"))),
    (whyrows.why_kept, (("sortings", "sortings"), ("tie", "tie"))),
    (whychecker.lets_turned, (("sortings", "sortings"), ("tie", "tie"))),
    (whychecker.lets_kept, (("sortings", "sortings"), ("tie", "tie"))),
    (listmerges.list_order, (("place", "place"), ("sortings", "sortings"))),
    (listmerges.list_orders, (("sortings", "sortings"),)),
    (listmerges.fits_lists, (("sortings", "sortings"),)),
    (listmerges.merged_by_lists, (("sortings", "sortings"),)),
    (listmerges.own_merges, (("sortings", "sortings"),)),
    (listmerges.fits_own, (("sortings", "sortings"),)),
)
BOOKS = (LIST, PAIR, GAP, LOOP, THREE, (1, ()), (2, ((0, 1),)), (5, ((0, 2), (1, 3, 4))))


def first_wrong(book, parameters, values):
    """The name of the first parameter that is not as stated, or None."""
    given = {}
    for (name, kind), value in zip(parameters, values):
        if not STATED[kind](book, given, value):
            return name
        given[name] = value
    return None


class Parameters(unittest.TestCase):
    def hold(self, call, parameters, book, values):
        """By position and by name the first parameter that is not as stated is refused, else none is."""
        before = copy.deepcopy(values)
        named = dict(zip([name for name, _ in parameters], values))
        if call.__name__.startswith("lets_"):
            named["thing"] = None
        wrong = first_wrong(book, parameters, values)
        for outcome in (
            refused(call, book, *named.values()), refused(lambda: call(book=book, **dict(reversed(named.items()))))
        ):
            if wrong is None:
                self.assertNotEqual(outcome[0], "NotUsable", (call, book, values))
            else:
                self.assertEqual(outcome, ("NotUsable", wrong, -1), (call, book, values))
        self.assertTrue(outright.same(values, before))

    def test_each_alone(self):
        draw = random.Random(41)
        for call, parameters in CALLS:
            for book in BOOKS:
                good = self.good_values(draw, book, parameters)
                if good is None:
                    continue
                self.hold(call, parameters, book, good)
                for k in range(len(good)):
                    for value in MORE:
                        self.hold(call, parameters, book, good[:k] + (value,) + good[k + 1:])

    def test_first_of_several(self):
        draw = random.Random(42)
        for call, parameters in CALLS:
            for _ in range(120):
                book = draw.choice(BOOKS)
                self.hold(call, parameters, book, tuple(draw.choice(MORE) for _ in parameters))

    def good_values(self, draw, book, parameters):
        given = {}
        for name, kind in parameters:
            values = [value for value in MORE if STATED[kind](book, given, value)]
            if not values:
                return None
            given[name] = draw.choice(values)
        return tuple(given.values())

    def test_each_kind_is_met(self):
        draw = random.Random(43)
        for call, parameters in CALLS:
            met = [book for book in BOOKS if self.good_values(draw, book, parameters) is not None]
            self.assertTrue(met, call)


if __name__ == "__main__":
    unittest.main()
