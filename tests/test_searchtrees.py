"""[77], [82]: search trees of orders."""
import random
import unittest
from itertools import permutations

import outright
from outright import ODD, changes, refused, same
from listbylist.listends import end_order
from listbylist.searchtrees import is_tree, own_order, tree_cut, tree_of

BIG = 10 ** 40


def things_in(tree):
    return set() if tree == () else {tree[0]} | things_in(tree[1]) | things_in(tree[2])


def tree_words(value):
    """is_tree by its words."""
    if type(value) is not tuple:
        return False
    if value == ():
        return True
    if len(value) != 3 or not outright.is_int(value[0]) or value[0] < 0:
        return False
    root, left, right = value
    return (
        tree_words(left) and tree_words(right)
        and all(x < root for x in things_in(left)) and all(x > root for x in things_in(right)))


def put_in(tree, thing):
    """The tree with one thing more, put in from the root down."""
    if tree == ():
        return (thing, (), ())
    root, left, right = tree
    return (root, put_in(left, thing), right) if thing < root else (root, left, put_in(right, thing))


def tree_by(order):
    tree = ()
    for thing in order:
        tree = put_in(tree, thing)
    return tree


class Trees(unittest.TestCase):
    def test_examples(self):
        self.assertEqual(tree_of((2, 0, 3, 1)), (2, (0, (), (1, (), ())), (3, (), ())))
        self.assertEqual((tree_of(()), own_order(()), tree_cut((), ())), ((), (), ()))
        self.assertEqual(own_order(tree_of((2, 3, 0, 1))), (2, 0, 1, 3))

    def test_over_all_orders(self):
        """Also [82]: there and back, and the end of the order by ("ahead", 1)."""
        for many in range(6):
            book = (max(many, 1), (tuple(range(many)),) if many > 1 else ())
            trees = set()
            for order in permutations(range(many)):
                tree = tree_of(order)
                self.assertTrue(same(tree, tree_by(order)))
                self.assertIs(is_tree(tree), True)
                back = own_order(tree)
                self.assertTrue(same(tree_of(back), tree))
                if many:
                    self.assertTrue(same(back, end_order(book, 0, order, ("ahead", 1))))
                trees.add(tree)
            self.assertEqual(len(trees), (1, 1, 2, 5, 14, 42)[many])

    def test_any_numbers(self):
        draw = random.Random(281)
        for _ in range(60):
            order = tuple(draw.sample((0, 1, 2, 3, 7, 9, 40, 41, 1000, BIG - 1, BIG), draw.randrange(9)))
            tree = tree_of(order)
            self.assertTrue(same(tree, tree_by(order)))
            lot = tuple(sorted(draw.sample((0, 1, 2, 5, 7, 9, 40, 1000, BIG), draw.randrange(8))))
            wanted = tree_by([x for x in own_order(tree) if x in lot])
            self.assertTrue(same(tree_cut(tree, lot), wanted))
            self.assertEqual(tree_cut(tree, tuple(sorted(order))), tree)
        self.assertEqual(tree_cut(tree_of((2, 0, 1)), (5, 6, BIG)), ())

    def test_cut_is_not_what_is_left_of_the_shape(self):
        tree = tree_of((1, 0, 3, 2))
        self.assertEqual(tree_cut(tree, (0, 2, 3)), (0, (), (3, (2, (), ()), ())))

    def test_is_tree(self):
        draw = random.Random(282)
        met = set()
        for _ in range(60):
            tree = tree_by(draw.sample(range(12), draw.randrange(1, 7)))
            for value in list(changes(tree)) + list(outright.rebooled(tree)) + [tree]:
                wanted = tree_words(value)
                met.add(wanted)
                self.assertIs(is_tree(value), wanted, value)
        self.assertEqual(met, {True, False})
        for value in ODD + ((1, (), 0), (1, (), [])) + ((1, (1, (), ()), ()), (1, (), (1, (), ())), (2, (1, (), (2, (), ())), ()),
                            (-1, (), ()), (True, (), ()), (1, ()), (1, (), (), ()), ("1", (), ()), (1, None, ())):
            self.assertIs(is_tree(value), value == ())
        wide = tree_by((5, 2, 8, 1, 3, 7, 9, 0, 4, 6, 10, BIG))
        self.assertIs(is_tree(wide), True)
        self.assertIs(is_tree(thing=tree_by(range(28))), True)

    def test_wrong_inputs(self):
        for value in ODD + ((0, 0), (1, True), (0, -1), [0, 1], (0, None), "01", ((0,),), (0, 1, 2, 1)):
            numbers = type(value) is tuple and all(outright.is_int(x) and x >= 0 for x in value)
            if not numbers or len(set(value)) < len(value):
                self.assertEqual(refused(tree_of, value), ("NotUsable", "order", -1), value)
            if not numbers or list(value) != sorted(set(value)):
                self.assertEqual(refused(tree_cut, (0, (), ()), value), ("NotUsable", "lot", -1), value)
        self.assertEqual(refused(tree_cut, (0, (), ()), (1, 0)), ("NotUsable", "lot", -1))
        self.assertEqual(tree_of(order=(1, 0)), tree_cut(lot=(0, 1), tree=(1, (0, (), ()), ())))
        self.assertEqual(own_order(tree=(1, (0, (), ()), ())), (1, 0))


if __name__ == "__main__":
    unittest.main()
