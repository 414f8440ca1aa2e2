"""[2], [12]: what is not as stated is refused, the first in the sequence of the parameters; nothing is changed."""
import copy
import functools
import random
import unittest

import outright
from outright import GAP, LIST, LOOP, ODD, PAIR, THREE, refused
from listbylist import (
    alls, barring, bases, bookchanges, books, closures, corners, crossings, cutpairs, deeds, endcounts, endings, evens,
    exchanging, faultchecker, finests, firstlast, fulllists, gluetrees, growing, joints, leaving, listends, listmerges,
    listorders, makings, mergefaults, merging, noleasts, numbers, opens, orderfaults, origins, oversides, patternlots, patterntexts, pieces, reasons, rising, ropekinds,
    ropetexts, rounds, rungs, showing, showings, sortlines, sorttexts, sortturns, spans, stepping, tops, tried, turning,
    undochecker, undoing, unlikes, uppers, viewmerges, viewpartings, ways, whychecker, whyrows)

ROUND = ((0, 1), (1, 2))
MORE = ODD + (
    ROUND, (ROUND,), ((), ROUND), [()], ([],), ((), [(0, 1)]), ((), ((0, True),)), (((0, 1),), ((1, 0),)), (((0, 3),),),
    ((0, 1), (0, 2), (1, 2), (1, 2)), (0, 1, 2, 3, 3), [0, 1, 2, 3], (0, 1, 2, 3, True), (3, 2, 1, 0), (0, 1, 2), 0, 1,
    2, 3, 4, 5, (), (0,), (1,), (4,), (0, 1), (0, 3), (0, 4), ((0, 1),), ((0, 3),), ((0, 2), (0, 3)), ((),), ((), ()),
    ((0, 1, 2), (1, 2, 3)), ((0, 1, 2), (0, 2, 3)), (LIST,), LIST, PAIR, (4, ()), (4, [])
)
# These are for what is asked of well jointed books, too.
ROPED = MORE + (
    (0, 2), (1, 2), (1, 3), [1, 2],
    (0, 1, ()), (0, 2, ()), (0, 2, (1,)), (1, 3, ()), (0, 2, [1]), (0, 2, (True,)), (False, 1, ()), (0, 2, (1, 1)),
    ((0, 1, ()),), ((0, 2, ()),), ((0, 1, ()), (0, 2, (1,))), ((0, 2, (1,)), (0, 1, ())), [(0, 1, ())], ((0, True, ()),),
    ((0, 1), (0, 2)), ((1, 2), (1, 3)), ((0, 2), (1, 2)), ((1, 2), (0, 2)), ((0, 1), (0, 2), (1, 2)), ((1, 3),), ("all",), ("none",), ["all"],
    ("amid", 1), ("ahead", 0), ("behind", 2), ("amid", True), ("amid", -1), ("amid",), ("amid", 1, 1), ("all", 1), "all",
    ("ropes", ()), ("above", ()), ("ropes", ((0, 1, ()),)), ("above", ((0, 1, ()),)), ("ropes", [(0, 1, ())]), ("ropes",),
    ("above", ((0, True, ()),)), ("ropes", ((0, 2, ()), (0, 1, ()))), ("not", ("all",)), ("not", "all"), ("not",),
    ("both", ("all",), ("amid", 1)), ("either", ("none",), ("amid", False)), ("both", ("all",)), (("all",),),
    "even", "greatest", "least", "closed", "Even", "most", ("even",), ("not", ("ropes", ((0, 1, ()),))),
    ("ropes", ((0, 1, ()), (1, 2, ()))), (2, 1, 0), (1, 0), (1, 3, 4), (4, 3, 1), (0, 2, 1), (2, True, 0), (0, 0, 0), (0, 1, 2),
    (0, 1, True), (0, 0, 0, 0), (0, 1, 2, 2), (0, 1, 2, 3), (0, 0), (0,), (0, 0, 0, 0, 1), 17, 18, 11,
    (3, ((0, 2),)), (4, ((1, 3),)), (1, ()), (2, ()), (5, ((1, 4),)), (5, ((0, 1),)), ("day",), ("turn", 0), ("drop", 0),
    ("exchange", 0, 0, 1), ("undo", 0, ("ahead", 1)),
)

# What each parameter may be: given the book, the values ahead by name, and the value.
STATED = {
    "here": lambda book, told, value: outright.is_below(book[0], value),
    "there": lambda book, told, value: outright.is_below(book[0], value) and value != told["here"],
    "tie": lambda book, told, value: outright.is_tie(book, value),
    "lot": lambda book, told, value: outright.is_lot(book, value),
    "some": lambda book, told, value: outright.is_lot(book, value) and value != (),
    "line": lambda book, told, value: outright.is_line(book, value),
    "sorting": lambda book, told, value: outright.is_sorting(book, value),
    "sortings": lambda book, told, value: outright.is_sortings(book, value),
    "ties": lambda book, told, value: outright.is_ties(book, value),
    "steps": lambda book, told, value: type(value) is tuple and all(outright.is_tie(book, x) for x in value),
    "place": lambda book, told, value: outright.is_below(len(outright.full(book)), value),
    "place_other": lambda book, told, value: (
        outright.is_below(len(outright.full(book)), value) and value != told["place"]),
    "book": lambda book, told, value: outright.is_book(value),
    "book_alike": lambda book, told, value: outright.is_book(value) and value[0] == book[0],
    "listed": lambda book, told, value: outright.is_below(len(book[1]), value),
    "things": lambda book, told, value: (
        type(value) is tuple and len(value) > 1 and all(outright.is_below(book[0], x) for x in value)
        and len(set(value)) == len(value)),
    "text": lambda book, told, value: type(value) is str,
    "above": lambda book, told, value: (
        outright.is_sorting(book, value) and set(told["sorting"]) <= set(value)),
    "rope": lambda book, told, value: outright.is_rope(book, value),
    "ropes": lambda book, told, value: outright.is_ropes(book, value),
    "cut": lambda book, told, value: (
        outright.is_tie(book, value) and set(value) <= outright.things_on(book, told["rope"])),
    "pattern": lambda book, told, value: outright.is_pattern(book, value),
    "fall": lambda book, told, value: outright.is_tie(book, value) and value in outright.falls(book, told["sorting"]),
    "fall_other": lambda book, told, value: (
        outright.is_tie(book, value) and value in outright.falls(book, told["sorting"]) and value != told["tie"]),
    "undoing": lambda book, told, value: outright.undoes(book, told["sorting"], told["pattern"], value),
    "rung": lambda book, told, value: type(value) is str and value in outright.RUNGS,
    "sided": lambda book, told, value: type(value) is str and value in outright.RUNGS[1:],
    "merging": lambda book, told, value: type(value) is str and value in ("greatest", "least"),
    "plain": lambda book, told, value: outright.is_pattern(book, value) and not {"ropes", "above", "not"} & words_in(value),
    "order": lambda book, told, value: (
        type(value) is tuple and all(map(outright.is_int, value)) and tuple(sorted(value)) == outright.full(book)[told["place"]]),
    "lot_there": lambda book, told, value: (
        outright.is_lot(book, value) and set(value) <= set(outright.full(book)[told["place"]])),
    "places": lambda book, told, value: type(value) is tuple and all(map(outright.is_int, value)) and any(
        value == numbers.places_of(book, one) for one in outright.sortings(book)),
    "number": lambda book, told, value: outright.is_below(len(outright.sortings(book)), value),
    "book_within": lambda book, told, value: (
        outright.is_book(value) and value[0] == book[0] and set(outright.ties(value)) <= set(outright.ties(book))),
    "any": lambda book, told, value: True,
}


def words_in(pattern):
    """The words used in a pattern."""
    return {pattern[0]}.union(*(words_in(part) for part in pattern[1:] if part and type(part) is tuple and type(part[0]) is str))


def all_of(call):
    """The generator's results as a list, so that its errors are raised at once."""
    return functools.wraps(call)(lambda *given, **named: list(call(*given, **named)))


CALLS = (
    (books.is_tied, (("here", "here"), ("there", "there"))),
    (books.near_of, (("here", "here"),)),
    (books.between_of, (("tie", "tie"),)),
    (bookchanges.kept_to, (("lot", "some"),)),
    (bookchanges.with_list, (("things", "things"),)),
    (bookchanges.without_list, (("listed", "listed"),)),
    (bookchanges.beside, (("other", "book"),)),
    (bookchanges.rebased, (("line", "line"),)),
    (fulllists.full_with, (("lot", "lot"),)),
    (fulllists.shared_by, (("place", "place"), ("other", "place_other"))),
    (joints.one_stretch, (("place", "place"), ("other", "place_other"))),
    (rounds.round_of, (("ties", "ties"),)),
    (rounds.lets_round, (("ties", "ties"),)),
    (sortlines.sorting_of, (("line", "line"),)),
    (sortlines.fits_line, (("sorting", "sorting"), ("line", "line"))),
    (sortlines.line_of, (("sorting", "sorting"),)),
    (ways.leads, (("sorting", "sorting"), ("here", "here"), ("there", "there"))),
    (ways.way_of, (("sorting", "sorting"), ("here", "here"), ("there", "there"))),
    (listorders.orders_of, (("sorting", "sorting"),)),
    (listorders.own_orders, (("sorting", "sorting"),)),
    (opens.open_ties, (("sorting", "sorting"),)),
    (opens.falls_of, (("sorting", "sorting"),)),
    (opens.rises_of, (("sorting", "sorting"),)),
    (opens.bars_of, (("sorting", "sorting"), ("tie", "tie"))),
    (exchanging.exchanged, (("sorting", "sorting"), ("tie", "tie"))),
    (exchanging.put_first, (("sorting", "sorting"), ("here", "here"))),
    (exchanging.put_last, (("sorting", "sorting"), ("here", "here"))),
    (stepping.differing, (("sorting", "sorting"), ("other", "sorting"))),
    (stepping.steps_between, (("sorting", "sorting"), ("other", "sorting"))),
    (stepping.stepped, (("sorting", "sorting"), ("steps", "steps"))),
    (stepping.lets_steps, (("sorting", "sorting"), ("other", "sorting"))),
    (alls.is_beneath, (("sorting", "sorting"), ("other", "sorting"))),
    (sortturns.turned_over, (("sorting", "sorting"),)),
    (sortturns.restricted, (("sorting", "sorting"), ("lot", "some"))),
    (sortturns.mirrored_sorting, (("sorting", "sorting"),)),
    (sortturns.rebased_sorting, (("sorting", "sorting"), ("line", "line"))),
    (sortturns.carried, (("sorting", "sorting"), ("other", "book_alike"))),
    (sorttexts.sorting_line, (("sorting", "sorting"),)),
    (sorttexts.read_sorting, (("text", "text"),)),
    (closures.closure_of, (("ties", "ties"),)),
    (merging.least_common, (("sortings", "sortings"),)),
    (merging.greatest_common, (("sortings", "sortings"),)),
    (whyrows.why_turned, (("sortings", "sortings"), ("tie", "tie"))),
    (whyrows.why_kept, (("sortings", "sortings"), ("tie", "tie"))),
    (whychecker.lets_turned, (("sortings", "sortings"), ("tie", "tie"))),
    (whychecker.lets_kept, (("sortings", "sortings"), ("tie", "tie"))),
    (listmerges.list_order, (("place", "place"), ("sortings", "sortings"))),
    (listmerges.list_orders, (("sortings", "sortings"),)),
    (listmerges.fits_lists, (("sortings", "sortings"),)),
    (listmerges.merged_by_lists, (("sortings", "sortings"),)),
    (listmerges.own_merges, (("sortings", "sortings"),)),
    (listmerges.fits_own, (("sortings", "sortings"),)),
    (firstlast.first_last, (("here", "here"),)),
    (noleasts.unmerged_paper, (("sorting", "sorting"), ("other", "sorting"))),
    (noleasts.lets_unmerged, (("sorting", "sorting"), ("other", "sorting"))),
    (tried.least_ones, (("sorting", "sorting"), ("other", "sorting"))),
    (tried.greatest_ones, (("sorting", "sorting"), ("other", "sorting"))),
    (all_of(spans.between_sortings), (("sorting", "sorting"), ("other", "above"))),
    (spans.agreed_ties, (("sortings", "sortings"),)),
)
SORTED = ("sorting", "sorting")
PATTERN = ("pattern", "pattern")
UNDONE = (SORTED, PATTERN)
JOINTED_CALLS = (
    (ropekinds.behind_of, (("rope", "rope"),)),
    (ropekinds.middle_of, (("rope", "rope"),)),
    (showing.shows, (SORTED, ("rope", "rope"))),
    (showing.rope_at, (SORTED, ("tie", "tie"))),
    (showings.least_showing, (("rope", "rope"),)),
    (showings.beneath_showing, (("rope", "rope"),)),
    (showings.greatest_rising, (("rope", "rope"),)),
    (reasons.reasons_of, (SORTED,)),
    (reasons.sorting_by_reasons, (("ropes", "ropes"),)),
    (crossings.crossing_of, (("rope", "rope"), ("other", "rope"))),
    (crossings.crossed_pair, (("ropes", "ropes"),)),
    (crossings.lets_crossing, (("rope", "rope"), ("other", "rope"))),
    (origins.who_shows, (("sortings", "sortings"), ("rope", "rope"))),
    (origins.merged_reasons, (("sortings", "sortings"),)),
    (makings.makes, (SORTED, ("sortings", "sortings"))),
    (makings.reason_sortings, (SORTED,)),
    (makings.reasons_apart, (SORTED, ("other", "sorting"))),
    (rising.rise_reasons, (SORTED,)),
    (rising.sorting_by_rises, (("ropes", "ropes"),)),
    (turning.turn_of, (SORTED,)),
    (turning.turn_back, (SORTED,)),
    (turning.turn_round, (SORTED,)),
    (ropetexts.rope_line, (("rope", "rope"),)),
    (ropetexts.read_rope, (("text", "text"),)),
    (ropetexts.ropes_text, (("ropes", "ropes"),)),
    (ropetexts.read_ropes, (("text", "text"),)),
    (patternlots.in_pattern, (("pattern", "pattern"), ("rope", "rope"))),
    (patternlots.pattern_ropes, (("pattern", "pattern"),)),
    (patterntexts.pattern_line, (("pattern", "pattern"),)),
    (patterntexts.read_pattern, (("text", "text"),)),
    (pieces.is_piece, (("rope", "rope"), ("other", "rope"))),
    (pieces.cut_rope, (("rope", "rope"), ("tie", "cut"))),
    (pieces.pieces_of, (("rope", "rope"),)),
    (uppers.above_of, (("ropes", "ropes"),)),
    (undoing.falls_in, UNDONE),
    (undoing.is_end, UNDONE),
    (undoing.undo_first, UNDONE),
    (undoing.end_first, UNDONE),
    (undoing.undone, UNDONE + (("steps", "undoing"),)),
    (undochecker.lets_undoing, UNDONE),
    (endings.ends_from, UNDONE),
    (endings.all_ends, (("pattern", "pattern"),)),
    (endings.lots_outside, (("pattern", "pattern"),)),
    (endings.told_back, (("sortings", "sortings"),)),
    (corners.corner_of, (SORTED, ("tie", "fall"), ("other", "fall_other"))),
    (corners.corner_ropes, (SORTED, ("tie", "fall"), ("other", "fall_other"))),
    (evens.sides_of, (("rope", "rope"), ("other", "rope"))),
    (evens.is_even, (("pattern", "pattern"),)),
    (evens.uneven_pair, (("pattern", "pattern"),)),
    (unlikes.unlike_ends, (("pattern", "pattern"),)),
    (unlikes.lets_unlike, (("pattern", "pattern"),)),
    (rungs.on_rung, (PATTERN, ("rung", "rung"))),
    (rungs.rungs_of, (PATTERN,)),
    (rungs.rung_fault, (PATTERN, ("rung", "rung"))),
    (faultchecker.lets_fault, (PATTERN, ("rung", "rung"))),
    (oversides.over_ropes, (("rope", "rope"), ("rung", "sided"))),
    (growing.least_on, (("ropes", "ropes"), ("rung", "rung"))),
    (growing.falls_with, (("ropes", "ropes"), ("rung", "rung"))),
    (growing.most_without, (("ropes", "ropes"), ("rung", "sided"))),
    (orderfaults.order_fault, (PATTERN,)),
    (orderfaults.lets_order, (PATTERN,)),
    (mergefaults.merge_fault, (PATTERN, ("rung", "merging"))),
    (mergefaults.lets_merge, (PATTERN, ("rung", "merging"))),
    (viewmerges.even_end, UNDONE),
    (viewmerges.least_in, (("sortings", "sortings"), PATTERN)),
    (viewmerges.greatest_in, (("sortings", "sortings"), PATTERN)),
    (tops.alike_by, (SORTED, ("other", "sorting"), PATTERN)),
    (tops.is_top, UNDONE),
    (tops.top_of, UNDONE),
    (tops.alike_sortings, UNDONE),
    (viewpartings.parting_of, (SORTED, ("other", "sorting"), PATTERN)),
    (viewpartings.lets_parting, (SORTED, ("other", "sorting"), PATTERN)),
    (finests.step_ropes, (SORTED, ("other", "sorting"))),
    (finests.finest_alike, (SORTED, ("other", "sorting"), ("rung", "rung"))),
    (finests.base_turned, (SORTED,)),
    (numbers.places_of, (SORTED,)),
    (numbers.sorting_by_places, (("places", "places"),)),
    (numbers.number_of, (SORTED,)),
    (numbers.sorting_at, (("number", "number"),)),
    (numbers.next_sorting, (SORTED,)),
    (listends.list_book, (("place", "place"),)),
    (listends.cut_pattern, (("place", "place"), PATTERN)),
    (listends.list_ends, (("place", "place"), PATTERN)),
    (listends.end_order, (("place", "place"), ("order", "order"), PATTERN)),
    (listends.end_by_lists, UNDONE),
    (listends.top_by_lists, UNDONE),
    (endcounts.ends_count, (("pattern", "plain"),)),
    (endcounts.seam_counts, (("place", "place"), ("lot", "lot_there"), ("pattern", "plain"))),
    (gluetrees.trees_of, (SORTED,)),
    (leaving.loss_of, (("other", "book_within"),)),
    (leaving.hole_of, (("lot", "lot"),)),
    (leaving.filled, (("lot", "lot"),)),
    (cutpairs.cut_pair, (("lot", "some"),)),
    (cutpairs.lets_cut, (("lot", "some"),)),
    (bases.is_base, (SORTED,)),
    (bases.base_gap, (SORTED,)),
    (bases.lets_base_gap, (SORTED,)),
    (barring.reason_of, (("branches", "sortings"), ("event", "any"))),
    (deeds.deed_of, (("branches", "sortings"), ("event", "any"))),
)
BOOKS = (LIST, PAIR, GAP, LOOP, THREE, (1, ()), (2, ((0, 1),)), (5, ((0, 2), (1, 3, 4))))
JOINTED_BOOKS = (LIST, PAIR, THREE, (1, ()), (2, ((0, 1),)), (5, ((0, 2), (1, 3, 4))))
EACH = (
    tuple((call, parameters, BOOKS, MORE) for call, parameters in CALLS)
    + tuple((call, parameters, JOINTED_BOOKS, ROPED) for call, parameters in JOINTED_CALLS)
)


def first_wrong(book, parameters, values):
    """The name of the first parameter that is not as stated, or None."""
    given = {}
    for (name, kind), value in zip(parameters, values):
        if not STATED[kind](book, given, value):
            return name
        given[name] = value
    return None


class Parameters(unittest.TestCase):
    def hold(self, call, parameters, book, values):
        """By position and by name the first parameter that is not as stated is refused, else none is."""
        before = copy.deepcopy(values)
        named = dict(zip([name for name, _ in parameters], values))
        if call.__name__.startswith("lets_"):
            named["thing"] = None
        wrong = first_wrong(book, parameters, values)
        for outcome in (
            refused(call, book, *named.values()), refused(lambda: call(book=book, **dict(reversed(named.items()))))
        ):
            if wrong is None:
                self.assertNotEqual(outcome[0], "NotUsable", (call, book, values))
            else:
                self.assertEqual(outcome, ("NotUsable", wrong, -1), (call, book, values))
        self.assertTrue(outright.same(values, before))

    def test_each_alone(self):
        draw = random.Random(41)
        for call, parameters, books_, values in EACH:
            for book in books_:
                good = self.good_values(draw, book, parameters, values)
                if good is None:
                    continue
                self.hold(call, parameters, book, good)
                for k in range(len(good)):
                    for value in values:
                        self.hold(call, parameters, book, good[:k] + (value,) + good[k + 1:])

    def test_first_of_several(self):
        draw = random.Random(42)
        for call, parameters, books_, values in EACH:
            for _ in range(120):
                book = draw.choice(books_)
                self.hold(call, parameters, book, tuple(draw.choice(values) for _ in parameters))

    def good_values(self, draw, book, parameters, values):
        """Values that are as stated; for a few draws there may be none behind what was drawn ahead."""
        for _ in range(80):
            given = {}
            for name, kind in parameters:
                stated = [value for value in values if STATED[kind](book, given, value)]
                if not stated:
                    break
                given[name] = draw.choice(stated)
            if len(given) == len(parameters):
                return tuple(given.values())
        return None

    def test_each_kind_is_met(self):
        draw = random.Random(43)
        for call, parameters, books_, values in EACH:
            met = [book for book in books_ if self.good_values(draw, book, parameters, values) is not None]
            self.assertTrue(met, call)


if __name__ == "__main__":
    unittest.main()
