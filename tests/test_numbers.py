"""[11] (G10), [73], [74], [82]: sortings counted, by places, and numbered."""
import random
import unittest
from itertools import product
from math import factorial, prod

import outright
from outright import FIVE, GAP, JOINTED, LIST, LOOP, ODD, PAIR, SMALL, refused, same
from listbylist.bookchanges import beside
from listbylist.joints import is_jointed
from listbylist.numbers import next_sorting, number_of, places_of, sorting_at, sorting_by_places, sorting_count
from listbylist.taking import is_bare_ring

DRAW = random.Random(261)
WITHOUT_RING = tuple(book for book in SMALL + JOINTED if not outright.rings(book)) + (FIVE,)
RINGED = tuple(book for book in SMALL if outright.rings(book))
BAND = outright.band_book(40, 6)
STAR = (40, tuple((0, x) for x in range(1, 40)))
CHAIN = outright.band_book(40, 2)
WIDE = (BAND, STAR, CHAIN, outright.band_book(40, 4), (40, ())) + tuple(
    outright.grown_book(DRAW, 40, 6) for _ in range(8))


def back_of(book):
    """The things put back, by the words: each time the least one left whose tied things left are all tied is taken."""
    left, taken = list(range(book[0])), []
    while left:
        for thing in left:
            near = [x for x in left if outright.tied(book, x, thing)]
            if all(x == y or outright.tied(book, x, y) for x in near for y in near):
                break
        left.remove(thing)
        taken.append(thing)
    return taken[::-1]


def rooms_of(book):
    """For each thing put back those tied to it that are there already."""
    back = back_of(book)
    return [(thing, [x for x in back[:k] if outright.tied(book, x, thing)]) for k, thing in enumerate(back)]


def places_by(rooms, turned):
    return tuple(len([x for x in before if outright.ahead(turned, x, thing)]) for thing, before in rooms)


def number_by(rooms, places):
    number = 0
    for (_, before), place in zip(rooms, places):
        number = number * (len(before) + 1) + place
    return number


class Numbers(unittest.TestCase):
    def test_examples(self):
        self.assertEqual(places_of(PAIR, ((0, 1),)), (0, 0, 0, 1))
        self.assertEqual(number_of((3, ((0, 1), (0, 2))), ()), 1)
        self.assertEqual((sorting_count(LIST), sorting_count(PAIR), sorting_count(GAP)), (6, 18, 18))

    def test_over_all_sortings(self):
        for book in WITHOUT_RING:
            found, rooms = outright.sortings(book), rooms_of(book)
            self.assertTrue(same(sorting_count(book), len(found)))
            by_number = {}
            for one in found:
                places = places_by(rooms, one)
                self.assertTrue(same(places_of(book, one), places))
                self.assertTrue(same(sorting_by_places(book, places), one))
                number = number_by(rooms, places)
                by_number[number] = one
                self.assertTrue(same(number_of(book, one), number))
                self.assertTrue(same(sorting_at(book, number), one))
            self.assertEqual(sorted(by_number), list(range(len(found))))
            for number, one in by_number.items():
                self.assertTrue(same(next_sorting(book, one), by_number.get(number + 1)))
            every = list(product(*(range(len(before) + 1) for _, before in rooms)))
            self.assertEqual({sorting_by_places(book, places) for places in every}, set(found))
            self.assertEqual(len(every), len(found))

    def test_last(self):
        self.assertIsNone(next_sorting((1, ()), ()))
        self.assertIsNone(next_sorting(LIST, sorting_at(LIST, 5)))
        self.assertEqual(next_sorting(LIST, sorting_at(LIST, 4)), sorting_at(LIST, 5))
        self.assertEqual((sorting_count((1, ())), number_of((3, ()), ()), sorting_at((3, ()), 0)), (1, 0, ()))

    def test_wide(self):
        draw = random.Random(262)
        self.assertEqual(sorting_count(BAND), 720 * 6 ** 34)
        self.assertEqual((sorting_count(STAR), sorting_count(CHAIN), sorting_count((40, ()))), (2 ** 39, 2 ** 39, 1))
        self.assertEqual(sorting_count(outright.band_book(40, 4)), 24 * 4 ** 36)
        for book in WIDE:
            rooms = rooms_of(book)
            count = prod(len(before) + 1 for _, before in rooms)
            self.assertEqual(sorting_count(book), count)
            for number in [0, count - 1] + [draw.randrange(count) for _ in range(4)]:
                one = sorting_at(book, number)
                self.assertIs(outright.is_sorting(book, one), True)
                places = places_by(rooms, one)
                self.assertEqual((number_of(book, one), places_of(book, one)), (number, places))
                self.assertEqual(sorting_by_places(book, places), one)
                follower = next_sorting(book, one)
                if number + 1 == count:
                    self.assertIsNone(follower)
                else:
                    self.assertEqual(follower, sorting_at(book, number + 1))
            one = outright.by_line(book, draw.sample(range(40), 40))
            self.assertEqual(sorting_at(book, number_of(book, one)), one)

    def test_beside(self):
        """The count of beside is the product of both."""
        for book, other in ((LIST, PAIR), (GAP, LIST), ((1, ()), FIVE), (outright.band_book(20, 5), outright.band_book(20, 3))):
            self.assertEqual(sorting_count(beside(book, other)), sorting_count(book) * sorting_count(other))
        for many in range(1, 7):
            self.assertEqual(sorting_count((many, (tuple(range(many)),) if many > 1 else ())), factorial(many))

    def test_not_jointed(self):
        """A bare ring is barred, a gap is not."""
        self.assertIs(is_jointed(GAP), False)
        self.assertEqual({number_of(GAP, one) for one in outright.sortings(GAP)}, set(range(18)))

    def test_bare_rings(self):
        """Ahead of what concerns other parameters."""
        for book in RINGED + (outright.ring_book(8),):
            for call in (
                lambda: sorting_count(book), lambda: places_of(book, None), lambda: sorting_by_places(book, None),
                lambda: number_of(book, ()), lambda: sorting_at(book, -1), lambda: next_sorting(book, [])
            ):
                name, ring = refused(call)
                self.assertEqual(name, "BareRing")
                self.assertIs(is_bare_ring(book, ring), True)

    def test_wrong_inputs(self):
        for value in ODD + (((0, 1), (1, 2)), [], ((0, 3),), ((False, 1),)):
            if not outright.is_sorting(LIST, value):
                for call in (places_of, number_of, next_sorting):
                    self.assertEqual(refused(call, LIST, value), ("NotUsable", "sorting", -1), value)
        rooms = [len(before) for _, before in rooms_of(PAIR)]
        self.assertEqual(rooms, [0, 1, 2, 2])
        for value in ODD + (
            (), (0, 0, 0), (0, 0, 0, 0, 0), [0, 0, 0, 0], (1, 0, 0, 0), (0, 2, 0, 0), (0, 0, 3, 0), (0, 0, 0, 3), (0, 0, 0, -1),
            (0, 0, 0, True), (0, False, 0, 0), (0, 0, "0", 0), (0, 0, (0,), 0), (0, 0, 0, None), (0, 0, 0, 10 ** 40), "0000",
        ):
            self.assertEqual(refused(sorting_by_places, PAIR, value), ("NotUsable", "places", -1), value)
        self.assertEqual(refused(sorting_by_places, PAIR, (0, 1, 2, 2))[0], "gives")
        for value in ODD + (18, 19, -1, True, "0", 10 ** 40, 0 == 0, (0,)):
            self.assertEqual(refused(sorting_at, PAIR, value), ("NotUsable", "number", -1), value)
        self.assertEqual(sorting_at(number=17, book=PAIR), outright.sortings(PAIR)[[
            number_of(PAIR, one) for one in outright.sortings(PAIR)].index(17)])


if __name__ == "__main__":
    unittest.main()
