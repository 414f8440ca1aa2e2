"""[11] (G10), [77], [78], [82]: trees turned, sortings by trees, how many tuples of trees fit together."""
import random
import unittest
from itertools import permutations, product

import outright
from outright import FIVE, JOINTED, LIST, ODD, PAIR, changes, refused, same
from listbylist.bookchanges import beside
from listbylist.exchanging import exchanged
from listbylist.fulllists import full_lists
from listbylist.gluetrees import sorting_by_trees, tree_count, trees_of
from listbylist.numbers import number_of, sorting_at, sorting_count
from listbylist.searchtrees import own_order, tree_of
from listbylist.tops import alike_by
from listbylist.treeturns import tree_turned, tree_turned_back
from test_listends import BAND, CHAIN, STAR, grown_jointed, order_in
from test_searchtrees import put_in, things_in, tree_by, tree_words
from test_viewmerges import LARGE

AHEAD = ("ahead", 1)
CATALAN = (1, 1, 2, 5, 14, 42, 132)


def parts_of(tree):
    """All parts of a tree that are not ()."""
    if tree:
        yield tree
        yield from parts_of(tree[1])
        yield from parts_of(tree[2])


def replaced(tree, part, other):
    """The tree with other in place of part."""
    if tree == part:
        return other
    return tree and (tree[0], replaced(tree[1], part, other), replaced(tree[2], part, other))


def turned_words(tree, here, there):
    """tree_turned by its words."""
    for part in parts_of(tree):
        if part[0] == here and part[2] and part[2][0] == there:
            _, a, (_, b, c) = part
            return ("gives", replaced(tree, part, (there, (here, a, b), c)))
    return ("NotUsable", "there", -1)


def turned_back_words(tree, here, there):
    for part in parts_of(tree):
        if part[0] == there and part[1] and part[1][0] == here:
            _, (_, a, b), c = part
            return ("gives", replaced(tree, part, (here, a, (there, b, c))))
    return ("NotUsable", "there", -1)


def all_trees(things):
    return sorted({tree_by(order) for order in permutations(things)}, key=str)


class Turns(unittest.TestCase):
    def test_by_the_words(self):
        met = set()
        for many in range(1, 6):
            for tree in all_trees(range(0, 3 * many, 3)):
                for here, there in product(range(3 * many), repeat=2):
                    for call, words in ((tree_turned, turned_words), (tree_turned_back, turned_back_words)):
                        wanted = words(tree, here, there) if here in things_in(tree) else ("NotUsable", "here", -1)
                        outcome = refused(call, tree, here, there)
                        self.assertTrue(same(outcome, wanted), (tree, here, there))
                        met.add(wanted[:2] if wanted[0] == "NotUsable" else "gives")
                        if wanted[0] == "gives":
                            self.assertTrue(tree_words(outcome[1]))
        self.assertEqual(met, {("NotUsable", "here"), ("NotUsable", "there"), "gives"})

    def test_there_and_back(self):
        draw = random.Random(291)
        for _ in range(60):
            tree = tree_by(draw.sample((0, 1, 4, 5, 9, 20, 10 ** 40, 33), draw.randrange(2, 9)))
            for part in parts_of(tree):
                if part[2]:
                    here, there = part[0], part[2][0]
                    other = tree_turned(tree, here, there)
                    self.assertTrue(same(tree_turned_back(other, here, there), tree))
                    self.assertEqual(things_in(other), things_in(tree))
                if part[1]:
                    here, there = part[1][0], part[0]
                    other = tree_turned_back(tree, here, there)
                    self.assertTrue(same(tree_turned(other, here, there), tree))

    def test_wrong_inputs(self):
        tree = tree_of((1, 0, 2))
        for value in ODD + (3, -1, True, 1.0 == 1, (1,), "1", None):
            for call in (tree_turned, tree_turned_back):
                self.assertEqual(refused(call, tree, value, None), ("NotUsable", "here", -1), value)
                self.assertEqual(refused(call, (), value, None), ("NotUsable", "here", -1), value)
                self.assertEqual(refused(call, tree, 1, value), ("NotUsable", "there", -1), value)
                self.assertEqual(refused(call, tree, 0, value), ("NotUsable", "there", -1), value)
        self.assertEqual(refused(tree_turned, tree, 1, 0), ("NotUsable", "there", -1))
        self.assertEqual(refused(tree_turned, tree, 2, 1), ("NotUsable", "there", -1))
        self.assertEqual(refused(tree_turned_back, tree, 1, 2), ("NotUsable", "there", -1))
        self.assertEqual(refused(tree_turned_back, tree, 2, 1), ("NotUsable", "there", -1))
        self.assertEqual(refused(tree_turned_back, tree, 1, 1), ("NotUsable", "there", -1))
        self.assertEqual(tree_turned(there=2, here=1, tree=tree), (2, (1, (0, (), ()), ()), ()))
        self.assertEqual(tree_turned_back(there=1, here=0, tree=tree), (0, (), (1, (), (2, (), ()))))
        self.assertEqual(refused(tree_turned_back, tree_of((1, 0)), 0, True), ("NotUsable", "there", -1))
        self.assertEqual(refused(tree_turned, tree_of((0, 1)), False, 1), ("NotUsable", "here", -1))
        self.assertEqual(refused(tree_turned, tree_of((0, 1)), 0, True), ("NotUsable", "there", -1))

    def test_by_exchanges(self):
        """[82]: by a rope with nothing ahead a rise turns the trees of all lists with both, by another one none."""
        met = set()
        for book in JOINTED + (FIVE,):
            lists = outright.full(book)
            found = outright.sortings(book)
            for one in found[::1 + len(found) // 30]:
                trees = trees_of(book, one)
                for rope in outright.rise_reasons(book, one):
                    low, high, front = rope
                    met.add(bool(front))
                    wanted = tuple(
                        tree_turned(tree, low, high) if not front and low in lists[k] and high in lists[k] else tree
                        for k, tree in enumerate(trees))
                    self.assertEqual(trees_of(book, exchanged(book, one, (low, high))), wanted)
        self.assertEqual(met, {True, False})


def check_trees(book, value):
    """What sorting_by_trees refuses, by its words; None if nothing."""
    lists = outright.full(book)
    if type(value) is not tuple or len(value) != len(lists):
        return ("NotUsable", "trees", -1)
    for k, things in enumerate(lists):
        if not tree_words(value[k]) or things_in(value[k]) != set(things):
            return ("NotUsable", "trees", k)
    for place, other in product(range(len(lists)), repeat=2):
        if place < other:
            shared = set(lists[place]) & set(lists[other])
            cuts = [tree_by([x for x in preorder(value[k]) if x in shared]) for k in (place, other)]
            if cuts[0] != cuts[1]:
                return ("Unglued", place, other)
    return None


def preorder(tree):
    return [tree[0], *preorder(tree[1]), *preorder(tree[2])] if tree else []


class Glued(unittest.TestCase):
    def test_examples(self):
        self.assertEqual(sorting_by_trees(PAIR, (tree_of((1, 0, 2)), tree_of((1, 3, 2)))), ((0, 1), (2, 3)))

    def test_over_all_tuples(self):
        """All tuples of trees: those that fit together are one to one with the ends by ("ahead", 1)."""
        met = set()
        for book in JOINTED:
            lists = outright.full(book)
            if len(lists) > 4 or max(map(len, lists)) > 4:
                continue
            ends = {
                tuple(tree_by(order_in(one, things)) for things in lists): one for one in outright.sortings(book)
                if not outright.falls_in(book, one, AHEAD)}
            every = list(product(*(all_trees(things) for things in lists)))
            for trees in every[::1 + len(every) // 300]:
                wrong = check_trees(book, trees)
                outcome = refused(sorting_by_trees, book, trees)
                met.add(outcome[0])
                self.assertTrue(same(outcome, wrong or ("gives", ends.get(trees))), (book, trees))
                self.assertIs(wrong is None, trees in ends)
            for trees, end in ends.items():
                self.assertTrue(same(sorting_by_trees(book, trees), end))
            many = sum(1 for trees in every if check_trees(book, trees) is None) if len(every) < 400 else len(ends)
            self.assertTrue(same(tree_count(book), many))
        self.assertEqual(met, {"gives", "Unglued"})

    def test_trees_of(self):
        """Also (G10): alike by ("ahead", 1) exactly if all trees are the same."""
        draw = random.Random(292)
        for book in JOINTED + (FIVE,):
            lists, found = outright.full(book), outright.sortings(book)
            trees = {one: tuple(tree_by(order_in(one, things)) for things in lists) for one in found}
            for one in draw.sample(found, min(12, len(found))):
                self.assertTrue(same(trees_of(book, one), trees[one]))
                end = sorting_by_trees(book, trees[one])
                self.assertTrue(same(trees_of(book, end), trees[one]))
                self.assertEqual(end, outright.last_ones(book, AHEAD, False)[one][0])
                other = draw.choice(found)
                self.assertIs(alike_by(book, one, other, AHEAD), trees[one] == trees[other])

    def test_more_things(self):
        draw = random.Random(293)
        for book in LARGE:
            for _ in range(4):
                one = outright.by_line(book, draw.sample(range(10), 10))
                trees = trees_of(book, one)
                end = sorting_by_trees(book, trees)
                self.assertEqual((trees_of(book, end), outright.falls_in(book, end, AHEAD)), (trees, ()))

    def test_counts_of_wide_books(self):
        self.assertEqual((tree_count(STAR), tree_count(CHAIN), tree_count((40, ()))), (2 ** 39, 2 ** 39, 1))
        for many in range(1, 7):
            self.assertEqual(tree_count((many, (tuple(range(many)),) if many > 1 else ())), CATALAN[many])
        book = (36, tuple(tuple(range(x, x + 6)) for x in range(0, 35, 5)))
        self.assertEqual(tree_count(book), 132 ** 7)
        self.assertEqual(tree_count(beside((6, (tuple(range(6)),)), outright.band_book(20, 2))), 132 * 2 ** 19)
        # Windows of three: the ends of three things are 012 021 201 with the first two rising, 102 210 with them
        # falling; so behind a rising pair one end has a rising pair and two a falling one, behind a falling one each.
        rising, falling = 1, 1
        for _ in range(38):
            rising, falling = rising + falling, 2 * rising + falling
        self.assertEqual(tree_count(outright.band_book(40, 3)), rising + falling)
        self.assertLess(tree_count(BAND), sorting_count(BAND))
        draw = random.Random(294)
        self.assertGreater(tree_count(grown_jointed(draw)), 1)

    def test_changed(self):
        draw = random.Random(295)
        met = set()
        for book in (LIST, PAIR, (5, ((0, 1, 2), (2, 3, 4))), (4, ((0, 1),)), (5, ((0, 1, 2), (1, 2, 3), (2, 3, 4)))):
            for _ in range(4):
                trees = trees_of(book, draw.choice(outright.sortings(book)))
                values = list(changes(trees)) + list(outright.rebooled(trees))
                values = draw.sample(values, min(120, len(values))) + list(ODD) + [trees[::-1], trees + ((),), list(trees)]
                values += [tuple(
                    draw.choice((tree, draw.choice(all_trees(things)))) for tree, things in zip(trees, outright.full(book)))
                    for _ in range(12)]
                for value in values:
                    wrong = check_trees(book, value)
                    outcome = refused(sorting_by_trees, book, value)
                    met.add(wrong and wrong[:2])
                    if wrong is None:
                        self.assertEqual((outcome[0], trees_of(book, outcome[1])), ("gives", value))
                    else:
                        self.assertTrue(same(outcome, wrong), (book, value))
        self.assertLessEqual({("NotUsable", "trees"), ("Unglued", 0), None}, met)

    def test_first_pair(self):
        book = (5, ((0, 1, 2), (1, 2, 3), (2, 3, 4)))
        up = (tree_of((0, 1, 2)), tree_of((1, 2, 3)), tree_of((2, 3, 4)))
        for trees, wanted in (
            ((tree_of((0, 2, 1)), up[1], tree_of((3, 2, 4))), ("Unglued", 0, 1)),
            ((up[0], up[1], tree_of((3, 2, 4))), ("Unglued", 1, 2)), ((up[0], tree_of((3, 2, 1)), up[2]), ("Unglued", 0, 1)),
            ((up[0], up[0], up[2]), ("NotUsable", "trees", 1)), ((up[0], up[1], up[1]), ("NotUsable", "trees", 2)),
            ((None, None, None), ("NotUsable", "trees", 0)), (up[:2], ("NotUsable", "trees", -1)), (list(up), ("NotUsable", "trees", -1)),
        ):
            self.assertEqual(refused(sorting_by_trees, book, trees), wanted)
        self.assertEqual(sorting_by_trees(trees=up, book=book), ())
        for value in ODD + (((0, 1), (1, 2)), []):
            if not outright.is_sorting(LIST, value):
                self.assertEqual(refused(trees_of, LIST, value), ("NotUsable", "sorting", -1), value)
        self.assertEqual(own_order(put_in((), 3)), (3,))


class Wide(unittest.TestCase):
    def test_numbers(self):
        """[82]: number_of and sorting_at undo each other."""
        draw = random.Random(296)
        for book in (BAND, grown_jointed(draw)):
            self.assertEqual(len(full_lists(book)) > 5, True)
            for _ in range(5):
                number = draw.randrange(sorting_count(book))
                self.assertEqual(number_of(book, sorting_at(book, number)), number)


if __name__ == "__main__":
    unittest.main()
