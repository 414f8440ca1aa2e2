"""[11] (G6), (G8), [75], [76], [82]: ends and tops list by list, and how many ends there are."""
import random
import unittest
from itertools import combinations, permutations
from math import prod

import outright
from outright import FIVE, JOINTED, LIST, ODD, PAIR, refused, same
from listbylist.bookchanges import beside
from listbylist.endcounts import ends_count, seam_counts
from listbylist.fulllists import full_lists
from listbylist.listends import cut_pattern, end_by_lists, end_order, list_book, list_ends, top_by_lists
from listbylist.listtrees import list_tree
from listbylist.numbers import sorting_count
from listbylist.rungs import on_rung
from listbylist.tops import is_top
from listbylist.undoing import is_end
from test_viewmerges import LARGE

FOUR = (4, ((0, 1, 2, 3),))
BAND = outright.band_book(40, 6)
STAR = (40, tuple((0, x) for x in range(1, 40)))
CHAIN = outright.band_book(40, 2)
PLAIN = (
    ("all",), ("none",), ("amid", 0), ("amid", 1), ("amid", 2), ("ahead", 1), ("ahead", 2), ("behind", 1),
    ("both", ("ahead", 1), ("behind", 1)), ("either", ("ahead", 1), ("behind", 1)),
    ("either", ("both", ("amid", 3), ("ahead", 0)), ("both", ("behind", 2), ("either", ("none",), ("ahead", 1)))))
CATALAN = (1, 1, 2, 5, 14, 42, 132)


def alone(things):
    return (len(things), (tuple(range(len(things))),) if len(things) > 1 else ())


def cut_told(book, things, pattern):
    """The told ropes whose ends are both among the things, these numbered anew."""
    return ("ropes", tuple(
        (things.index(low), things.index(high), tuple(things.index(x) for x in front))
        for low, high, front in outright.told_ropes(book, pattern) if low in things and high in things))


def cut_words(book, things, pattern):
    """cut_pattern by its words."""
    word, *parts = pattern
    if word in ("ropes", "above"):
        return (word, cut_told(book, things, ("ropes", parts[0]))[1])
    return (word, *(cut_words(book, things, part) if type(part) is tuple else part for part in parts))


def order_in(turned, things):
    return tuple(sorted(things, key=lambda x: sum(outright.ahead(turned, y, x) for y in things if y != x)))


def led(book, things, order, pattern, up):
    """The end, or the top, of an order by all undoing, or redoing, in the list as a book by itself."""
    one = alone(things)
    turned = outright.by_line(one, tuple(things.index(x) for x in order))
    last = outright.last_ones(one, cut_told(book, things, pattern), up)[turned]
    return tuple(things[x] for x in order_in(last[0], range(len(things))))


def off_rung(book, outcome, pattern, rung):
    """True if the outcome is an OffRung with true fields."""
    name, word, given, missing = outcome
    return (
        (name, word) == ("OffRung", rung) and (given, missing) in outright.asks(book, rung)
        and all(outright.tells(book, pattern, rope) for rope in given) and not outright.tells(book, pattern, missing))


def stands(book, pattern, rung):
    return outright.on_rung(book, outright.told_ropes(book, pattern), rung)


class Cuts(unittest.TestCase):
    def test_examples(self):
        self.assertEqual(cut_pattern(PAIR, 1, ("ropes", ((0, 1, ()), (1, 2, ())))), ("ropes", ((0, 1, ()),)))

    def test_by_the_words(self):
        draw = random.Random(271)
        for book in JOINTED + (FIVE,) + LARGE:
            for place, things in enumerate(outright.full(book)):
                self.assertTrue(same(list_book(book, place), alone(things)))
                for pattern in outright.rung_patterns(draw, book, 1):
                    cut = cut_pattern(book, place, pattern)
                    self.assertTrue(same(cut, cut_words(book, things, pattern)))
                    self.assertTrue(outright.is_pattern(alone(things), cut))

    def test_edges(self):
        self.assertEqual((list_book((3, ((0, 1),)), 1), list_book((3, ()), 2)), ((1, ()), (1, ())))
        rope = ((0, 1, ()), (1, 2, ()))
        for word in ("ropes", "above"):
            self.assertEqual(cut_pattern(PAIR, 1, ("not", (word, rope))), ("not", (word, ((0, 1, ()),))))
            self.assertEqual(
                cut_pattern(PAIR, 1, ("both", ("either", (word, rope), ("amid", 3)), ("not", (word, ())))),
                ("both", ("either", (word, ((0, 1, ()),)), ("amid", 3)), ("not", (word, ()))))
        self.assertEqual(cut_pattern((3, ((0, 1),)), 1, ("ropes", ((0, 1, ()),))), ("ropes", ()))
        self.assertEqual(cut_pattern((4, ((1, 2, 3),)), 1, ("ropes", ((1, 3, (2,)),))), ("ropes", ((0, 2, (1,)),)))

    def test_wrong_inputs(self):
        for place in ODD + (2, -1, True, None):
            for call in (list_book, lambda *given: cut_pattern(*given, None), lambda *given: list_ends(*given, None),
                         lambda *given: end_order(*given, None, None), lambda *given: seam_counts(*given, None, None)):
                self.assertEqual(refused(call, PAIR, place), ("NotUsable", "place", -1), place)
        for pattern in ODD + (("amid", True), ("ropes", ((0, 3, ()),)), ("ropes", [(0, 1, ())]), ["all"]):
            for call in (
                lambda: cut_pattern(PAIR, 0, pattern), lambda: list_ends(PAIR, 0, pattern), lambda: end_by_lists(PAIR, (), pattern),
                lambda: end_order(PAIR, 0, (0, 2, 1), pattern), lambda: top_by_lists(PAIR, (), pattern),
                lambda: ends_count(PAIR, pattern), lambda: seam_counts(PAIR, 0, (0, 1), pattern),
            ):
                self.assertEqual(refused(call), ("NotUsable", "pattern", -1), pattern)
        for order in ODD + ((0, 1), (0, 1, 1), (0, 1, 3), (1, 2, 3), (0, 1, 2, 2), [0, 1, 2], (0, True, 2), (False, 1, 2), "012"):
            self.assertEqual(refused(end_order, PAIR, 0, order, None), ("NotUsable", "order", -1), order)
        for sorting in ODD + (((0, 1), (1, 2)), [], ((0, 3),)):
            if not outright.is_sorting(PAIR, sorting):
                for call in (end_by_lists, top_by_lists):
                    self.assertEqual(refused(call, PAIR, sorting, None), ("NotUsable", "sorting", -1), sorting)
        for lot in ODD + ((3,), (0, 3), (2, 1), [1, 2], (True, 2), (0, 0), (0, 1, 2, 3)):
            if not outright.is_lot(LIST, lot):
                self.assertEqual(refused(seam_counts, PAIR, 0, lot, None), ("NotUsable", "lot", -1), lot)
        for pattern in (("ropes", ()), ("above", ()), ("not", ("all",)), ("both", ("all",), ("not", ("none",)))):
            self.assertEqual(refused(ends_count, PAIR, pattern), ("NotUsable", "pattern", -1))
            self.assertEqual(refused(seam_counts, PAIR, 0, (), pattern), ("NotUsable", "pattern", -1))


class Ends(unittest.TestCase):
    def test_examples(self):
        wanted = ((0, 1, 2), (0, 2, 1), (1, 0, 2), (2, 0, 1), (2, 1, 0))
        self.assertEqual(list_ends(PAIR, 0, ("ahead", 1)), wanted)
        self.assertEqual(top_by_lists(PAIR, ((0, 1),), ("ahead", 1)), ((0, 1), (0, 2)))
        self.assertEqual(end_order(PAIR, 0, (1, 2, 0), ("ahead", 1)), (1, 0, 2))
        self.assertEqual(list_ends((3, ((0, 1),)), 1, ("all",)), ((2,),))

    def test_by_all_orders(self):
        draw = random.Random(272)
        for book in JOINTED + (FIVE,):
            for pattern in outright.rung_patterns(draw, book, 1):
                for place, things in enumerate(outright.full(book)):
                    order = tuple(draw.sample(things, len(things)))
                    if not stands(book, pattern, "greatest"):
                        self.assertTrue(off_rung(book, refused(list_ends, book, place, pattern), pattern, "greatest"))
                        self.assertTrue(off_rung(book, refused(end_order, book, place, order, pattern), pattern, "greatest"))
                        continue
                    wanted = tuple(sorted(
                        one for one in permutations(things) if led(book, things, one, pattern, False) == one))
                    self.assertTrue(same(list_ends(book, place, pattern), wanted))
                    for one in [order, wanted[-1], tuple(draw.sample(things, len(things)))]:
                        self.assertTrue(same(end_order(book, place, one, pattern), led(book, things, one, pattern, False)))

    def test_by_lists(self):
        """Also (G8): the ends and tops of the book itself."""
        draw = random.Random(273)
        met = set()
        for book in JOINTED:
            found, lists = outright.sortings(book), outright.full(book)
            for pattern in outright.rung_patterns(draw, book, 1):
                for call, rung, up in ((end_by_lists, "greatest", False), (top_by_lists, "least", True)):
                    goes = stands(book, pattern, rung)
                    met.add((rung, goes))
                    self.assertIs(on_rung(book, pattern, rung), goes)
                    if not goes:
                        self.assertTrue(off_rung(book, refused(call, book, found[-1], pattern), pattern, rung))
                        continue
                    last = outright.last_ones(book, pattern, up)
                    for one in draw.sample(found, min(len(found), 4)):
                        self.assertTrue(same(call(book, one, pattern), last[one][0]))
                        orders = [order_in(one, things) for things in lists]
                        each = all(
                            led(book, things, orders[k], pattern, up) == orders[k] for k, things in enumerate(lists))
                        self.assertIs(each, last[one] == (one,))
        self.assertEqual(len(met), 4)

    def test_wide(self):
        draw = random.Random(274)
        for book in (BAND, STAR, CHAIN, grown_jointed(draw)):
            one = outright.by_line(book, draw.sample(range(40), 40))
            for pattern in PLAIN:
                end, top = end_by_lists(book, one, pattern), top_by_lists(book, one, pattern)
                self.assertTrue(set(end) <= set(one) <= set(top))
                for place, things in list(enumerate(full_lists(book)))[::7]:
                    order = order_in(one, things)
                    self.assertEqual(end_order(book, place, order, pattern), order_in(end, things))
                    self.assertIn(order_in(end, things), list_ends(book, place, pattern))
            self.assertEqual(end_by_lists(book, one, ("all",)), ())
            self.assertEqual(top_by_lists(book, one, ("all",)), outright.ties(book))
            self.assertEqual((end_by_lists(book, one, ("none",)), top_by_lists(book, one, ("none",))), (one, one))

    def test_wide_by_ropes(self):
        """A pattern that is not plain, on a wide book with few enough ropes."""
        draw = random.Random(275)
        for book in (CHAIN, STAR, outright.band_book(30, 3)):
            ropes = outright.ropes(book)
            pattern = ("ropes", outright.grown_told(book, tuple(sorted(draw.sample(ropes, 9))), "greatest"))
            one = outright.by_line(book, draw.sample(range(book[0]), book[0]))
            end = end_by_lists(book, one, pattern)
            self.assertIs(is_end(book, end, pattern), True)
            self.assertLessEqual(set(end), set(one))
            pattern = ("ropes", outright.grown_told(book, tuple(sorted(draw.sample(ropes, 9))), "least"))
            top = top_by_lists(book, one, pattern)
            self.assertIs(is_top(book, top, pattern), True)
            self.assertLessEqual(set(one), set(top))


def grown_jointed(draw):
    """Lists that hang as a tree, each sharing one stretch with the one it hangs from."""
    lists, size = [tuple(range(5))], 5
    while size < 38:
        base = draw.choice(lists)
        # What is shared ends the one list and begins the other one.
        shared = base[-draw.randrange(1, len(base)):] if len(base) > 1 else base
        many = draw.randrange(1, 4)
        many = min(many, 6 - len(shared), 40 - size)
        if many < 1:
            continue
        lists.append(shared + tuple(range(size, size + many)))
        size += many
    lists = [one for one in lists if not any(set(one) < set(other) for other in lists)]
    return (40, tuple(sorted(set(lists))) + ((size, 39),) * (size < 39))


class Counts(unittest.TestCase):
    def test_examples(self):
        self.assertEqual(ends_count(PAIR, ("ahead", 1)), 12)
        self.assertEqual(seam_counts(PAIR, 0, (1, 2), ("ahead", 1)), (((1, 2), 2), ((2, 1), 3)))

    def test_by_counting(self):
        draw = random.Random(276)
        for book in JOINTED + (FIVE,):
            found, lists = outright.sortings(book), outright.full(book)
            for pattern in PLAIN:
                many = sum(1 for one in found if not outright.falls_in(book, one, pattern))
                self.assertTrue(same(ends_count(book, pattern), many))
                for place, things in enumerate(lists):
                    for lot in ((), things, tuple(sorted(draw.sample(things, draw.randrange(len(things) + 1))))):
                        self.assertTrue(same(seam_counts(book, place, lot, pattern), seams_by(book, place, lot, pattern)))

    def test_beside_and_two_lists(self):
        """[82]: products, and sums along the shared lot."""
        for pattern in PLAIN:
            for book, other in ((LIST, PAIR), (FIVE, (1, ())), (FOUR, (5, ((0, 2), (1, 3, 4))))):
                self.assertEqual(ends_count(beside(book, other), pattern), ends_count(book, pattern) * ends_count(other, pattern))
            for book in (PAIR, (5, ((0, 1, 2, 3), (1, 2, 3, 4))), (8, (tuple(range(6)), tuple(range(2, 8)))), (7, ((0, 1, 2, 3), (3, 4, 5, 6)))):
                shared = tuple(x for x in book[1][0] if x in book[1][1])
                mine, others = (dict(seam_counts(book, place, shared, pattern)) for place in (0, 1))
                self.assertEqual(ends_count(book, pattern), sum(mine[one] * others.get(one, 0) for one in mine))

    def test_wide(self):
        for book in (STAR, CHAIN, BAND):
            self.assertEqual(ends_count(book, ("none",)), sorting_count(book))
            self.assertEqual(ends_count(book, ("all",)), 1)
            self.assertEqual(ends_count(book, ("amid", 0)), 1)
        for book in (STAR, CHAIN):
            for pattern in (("ahead", 1), ("amid", 1), ("behind", 3)):
                self.assertEqual(ends_count(book, pattern), 2 ** 39)
        # By ("amid", 1) just the ties with nothing between tell the ends apart.
        self.assertEqual(ends_count(BAND, ("amid", 1)), 2 ** 39)
        for many in range(1, 7):
            book = (many, (tuple(range(many)),) if many > 1 else ())
            self.assertEqual(ends_count(book, ("ahead", 1)), CATALAN[many])
        # Lists of six that share the last thing with the first one of the next.
        book = (36, tuple(tuple(range(x, x + 6)) for x in range(0, 35, 5)))
        for pattern in PLAIN:
            one = ends_count((6, (tuple(range(6)),)), pattern)
            self.assertEqual(ends_count(book, pattern), one ** 7)

    def test_wide_along_a_line(self):
        """Windows of neighbours: counted thing by thing from the one end."""
        for wide in (3, 4, 6):
            book = outright.band_book(40, wide)
            for pattern in PLAIN[3:]:
                ends = list_ends(book, 0, pattern)
                counts = {one: 1 for one in ends}
                for _ in range(40 - wide):
                    sums = {}
                    for one, many in counts.items():
                        key = tuple(x - 1 for x in one if x > 0)
                        sums[key] = sums.get(key, 0) + many
                    counts = {one: sums.get(tuple(x for x in one if x < wide - 1), 0) for one in ends}
                self.assertEqual(ends_count(book, pattern), sum(counts.values()))

    def test_hung_as_a_tree(self):
        draw = random.Random(277)
        for _ in range(4):
            book = grown_jointed(draw)
            tree, lists = list_tree(book), full_lists(book)
            self.assertGreater(len(lists), 6)
            for pattern in PLAIN:
                counts = {place: dict.fromkeys(list_ends(book, place, pattern), 1) for place in range(len(lists))}
                self.assertEqual(ends_count(book, pattern), counted(lists, set(tree), counts))


def counted(lists, tree, counts):
    """The weights of all lists multiplied together along the tree, leaf by leaf."""
    left, total = dict(counts), []
    while left:
        for leaf in sorted(left):
            edges = [pair for pair in tree if leaf in pair]
            if len(edges) <= 1:
                break
        weights = left.pop(leaf)
        if not edges:
            total.append(sum(weights.values()))
            continue
        tree.discard(edges[0])
        other = sum(edges[0]) - leaf
        shared = set(lists[leaf]) & set(lists[other])
        sums = {}
        for one, many in weights.items():
            key = tuple(x for x in one if x in shared)
            sums[key] = sums.get(key, 0) + many
        left[other] = {
            one: many * sums.get(tuple(x for x in one if x in shared), 0) for one, many in left[other].items()}
    return prod(total)


def seams_by(book, place, lot, pattern):
    """seam_counts by its words."""
    counts = {}
    for one in list_ends(book, place, pattern):
        key = tuple(x for x in one if x in lot)
        counts[key] = counts.get(key, 0) + 1
    return tuple(sorted(counts.items()))


if __name__ == "__main__":
    unittest.main()
