"""[7], [11] (G1), [27], [28], [29], [32]: open ties, exchanges, steps."""
import random
import unittest
from itertools import combinations

import outright
from outright import GAP, LIST, LOOP, ODD, PAIR, SMALL, changes, refused, same, told
from listbylist.exchanging import exchanged, put_first, put_last
from listbylist.opens import bars_of, falls_of, open_ties, rises_of
from listbylist.stepping import differing, lets_steps, stepped, steps_between


def flipped(sorting, tie):
    return tuple(sorted(set(sorting) ^ {tie}))


def opens(book, sorting):
    """The ties whose exchange gives a sorting."""
    return tuple(tie for tie in outright.ties(book) if not outright.in_round(book, flipped(sorting, tie)))


def is_block(book, sorting, tie, way):
    """True if this is a way, of at least three things, from the end ahead to the end behind."""
    return (
        type(way) is tuple and len(way) > 2 and sorted((way[0], way[-1])) == list(tie)
        and outright.ahead(sorting, way[0], way[-1])
        and all(outright.tied(book, x, y) and outright.ahead(sorting, x, y) for x, y in zip(way, way[1:])))


def rings_from(book, sorting):
    """How many exchanges, as few as can be, lead from the sorting to each one: gone through ring by ring."""
    far, newest = {sorting: 0}, [sorting]
    while newest:
        reached = []
        for one in newest:
            for tie in opens(book, one):
                other = flipped(one, tie)
                if other not in far:
                    far[other] = far[one] + 1
                    reached.append(other)
        newest = reached
    return far


def check_steps(book, sorting, other, value):
    """What lets_steps gives by its words."""
    if type(value) is not tuple:
        return told("shape", -1)
    for k, tie in enumerate(value):
        if not outright.is_tie(book, tie):
            return told("tie", k)
        if tie not in opens(book, sorting):
            return told("open", k)
        sorting = flipped(sorting, tie)
    return ("gives", len(value)) if sorting == other else told("end", -1)


class Opens(unittest.TestCase):
    def test_examples(self):
        self.assertEqual(open_ties(PAIR, ((0, 1),)), ((0, 1), (0, 2), (2, 3)))
        self.assertEqual(bars_of(PAIR, ((0, 1),), (1, 2)), (0,))
        self.assertEqual(falls_of(LIST, ((0, 2), (1, 2))), ((0, 2),))
        self.assertEqual(open_ties((3, ()), ()), ())

    def test_by_the_exchange(self):
        for book in SMALL:
            for sorting in outright.sortings(book):
                wanted = opens(book, sorting)
                self.assertTrue(same(open_ties(book, sorting), wanted))
                self.assertTrue(same(falls_of(book, sorting), tuple(tie for tie in wanted if tie in sorting)))
                self.assertTrue(same(rises_of(book, sorting), tuple(tie for tie in wanted if tie not in sorting)))

    def test_bars(self):
        for book in SMALL:
            for sorting in outright.sortings(book)[::2]:
                for tie in outright.ties(book):
                    front, back = tie if outright.ahead(sorting, *tie) else tie[::-1]
                    wanted = tuple(
                        x for x in range(book[0])
                        if outright.tied(book, x, front) and outright.tied(book, x, back)
                        and outright.ahead(sorting, front, x) and outright.ahead(sorting, x, back))
                    self.assertTrue(same(bars_of(book, sorting, tie), wanted))
                    if wanted:
                        self.assertNotIn(tie, open_ties(book, sorting))

    def test_neighbours_in_each_full_list(self):
        """[11] (G1)."""
        for book in SMALL:
            if outright.rings(book):
                continue
            lists = outright.full(book)
            for sorting in outright.sortings(book)[::3]:
                for low, high in outright.ties(book):
                    front, back = (low, high) if outright.ahead(sorting, low, high) else (high, low)
                    beside = not any(
                        front in things and back in things
                        and outright.ahead(sorting, front, x) and outright.ahead(sorting, x, back)
                        for things in lists for x in set(things) - {low, high})
                    self.assertIs((low, high) in open_ties(book, sorting), beside)

    def test_ten_things(self):
        book = outright.ring_book(10)
        for sorting in ((), ((0, 1),), ((0, 9), (4, 5)), ((0, 1), (0, 9))):
            self.assertEqual(open_ties(book, sorting), opens(book, sorting))


class Exchanges(unittest.TestCase):
    def test_examples(self):
        self.assertEqual(exchanged(LIST, ((0, 1),), (0, 2)), ((0, 1), (0, 2)))
        self.assertEqual(put_first(LIST, ((0, 1),), 2), ((0, 1), (0, 2), (1, 2)))
        self.assertEqual(put_last(LIST, ((0, 1),), 2), ((0, 1),))
        self.assertEqual(exchanged(LIST, ((0, 1),), (0, 1)), ())

    def test_exchanged_or_blocked(self):
        for book in SMALL:
            for sorting in outright.sortings(book):
                can = opens(book, sorting)
                for tie in outright.ties(book):
                    outcome = refused(exchanged, book, sorting, tie)
                    if tie in can:
                        self.assertTrue(same(outcome, ("gives", flipped(sorting, tie))))
                    else:
                        self.assertEqual(outcome[0], "Blocked")
                        self.assertTrue(is_block(book, sorting, tie, outcome[1]))

    def test_put(self):
        for book in SMALL:
            for sorting in outright.sortings(book):
                for here in range(book[0]):
                    rest = [tie for tie in sorting if here not in tie]
                    first = tuple(sorted(rest + [tie for tie in outright.ties(book) if tie[1] == here]))
                    last = tuple(sorted(rest + [tie for tie in outright.ties(book) if tie[0] == here]))
                    self.assertTrue(same(put_first(book, sorting, here), first))
                    self.assertTrue(same(put_last(book, sorting, here), last))
                    self.assertFalse(outright.in_round(book, first) or outright.in_round(book, last))

    def test_long_way(self):
        book = outright.ring_book(10)
        outcome = refused(exchanged, book, (), (0, 9))
        self.assertEqual(outcome, ("Blocked", tuple(range(10))))


class Steps(unittest.TestCase):
    def test_examples(self):
        self.assertEqual(differing(LIST, ((0, 1),), ((0, 1), (0, 2))), ((0, 2),))
        self.assertEqual(steps_between(LIST, (), ((0, 1), (0, 2))), ((0, 1), (0, 2)))
        self.assertEqual(stepped(LIST, (), ((0, 1), (0, 2), (0, 2))), ((0, 1),))
        self.assertEqual(lets_steps(LIST, (), ((0, 1),), ((1, 2), (1, 2), (0, 1))), 3)
        self.assertEqual(steps_between(LIST, ((0, 1),), ((0, 1),)), ())

    def test_fewest_ring_by_ring(self):
        for book in SMALL:
            found = outright.sortings(book)
            for sorting in found[::max(1, len(found) // 6)]:
                far = rings_from(book, sorting)
                self.assertEqual(set(far), set(found))
                for other in found:
                    unlike = tuple(sorted(set(sorting) ^ set(other)))
                    self.assertTrue(same(differing(book, sorting, other), unlike))
                    steps = steps_between(book, sorting, other)
                    self.assertEqual((len(steps), tuple(sorted(steps))), (far[other], unlike))
                    self.assertEqual(check_steps(book, sorting, other, steps), ("gives", len(steps)))
                    self.assertEqual(lets_steps(book, sorting, other, steps), len(steps))
                    self.assertEqual(stepped(book, sorting, steps), other)

    def test_some_unlike_tie_is_open(self):
        """[32]: at the first; and if that is beneath the other, steps that only turn lead there."""
        for book in SMALL:
            found = outright.sortings(book)
            for sorting, other in list(combinations(found, 2))[::17]:
                unlike = differing(book, sorting, other)
                self.assertTrue(set(unlike) & set(open_ties(book, sorting)))
                if set(sorting) <= set(other):
                    self.assertEqual(set(steps_between(book, sorting, other)), set(other) - set(sorting))

    def test_stepped(self):
        draw = random.Random(9)
        blocked = 0
        for book in SMALL:
            every = outright.ties(book)
            for _ in range(20 if every else 0):
                start = reached = draw.choice(outright.sortings(book))
                steps = tuple(draw.choice(every) for _ in range(draw.randrange(9)))
                wanted = None
                for tie in steps:
                    if tie not in opens(book, reached):
                        wanted = tie
                        break
                    reached = flipped(reached, tie)
                outcome = refused(stepped, book, start, steps)
                if wanted is None:
                    self.assertTrue(same(outcome, ("gives", reached)))
                else:
                    blocked += 1
                    self.assertEqual(outcome[0], "Blocked")
                    self.assertTrue(is_block(book, reached, wanted, outcome[1]))
        self.assertGreater(blocked, 50)

    def test_steps_refused(self):
        for steps in (None, [(0, 1)], ((0, 1), (1, 0)), ((0, 3),), ((0, 1), None), ("01",), ((0, True),), (0, 1)):
            self.assertEqual(refused(stepped, PAIR, (), steps), ("NotUsable", "steps", -1), steps)
        # A wrong step comes ahead of a blocked one.
        self.assertEqual(refused(stepped, LIST, (), ((0, 2), (0, 3))), ("NotUsable", "steps", -1))
        self.assertEqual(stepped(LIST, (), ()), ())

    def test_checker_by_the_words(self):
        draw = random.Random(10)
        for book in SMALL:
            found = outright.sortings(book)
            for _ in range(6):
                sorting, other = draw.choice(found), draw.choice(found)
                steps = steps_between(book, sorting, other)
                values = list(ODD) + [steps + steps, steps[::-1], steps + steps[-1:] * 2]
                values.extend(list(changes(steps))[::3])
                for value in values:
                    self.assertEqual(
                        refused(lets_steps, book, sorting, other, value), check_steps(book, sorting, other, value),
                        (book, sorting, other, value))

    def test_first_that_applies(self):
        for value, word, at in (
            ([], "shape", -1), (((0, 1), (0, 3)), "tie", 1), (((0, 2), (0, 3)), "open", 0), ((), "end", -1),
            (((0, 1), (0, 1)), "end", -1), (((0, 1), [0, 2]), "tie", 1), (((0, 1), (1, 2)), "open", 1),
        ):
            self.assertEqual(refused(lets_steps, LIST, (), ((0, 1),), value), told(word, at), value)
        self.assertEqual(lets_steps(GAP, (), (), ()), 0)
        self.assertEqual(lets_steps(LOOP, (), ((0, 2),), ((0, 2),)), 1)


if __name__ == "__main__":
    unittest.main()
