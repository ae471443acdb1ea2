"""Unlike hues by last places: [2], [4], [5], [8], [9], [10]."""

import itertools
import unittest

from huesbelow.errors import NoHues, NoPart, NoPlace, NoTree
from huesbelow.lasts import hues_below, last_places, unlike_all, unlike_below, unlike_in
from huesbelow.trees import span, walk
from tests import plainly

BIG = plainly.BIG

ROWS = [
    [7],
    [4, 4, 4, 4],
    [1, 2, 3, 4, 5],
    [1, 2, 1, 2, 1, 3, 2, 1],
    [0, -1, 1, -1, 0, 1],
    [BIG, -BIG, BIG, BIG + 1, -BIG, BIG + 1],
    plainly.mixed_hues(25, 3),
]

# Every question about a tree and its hues, by a place or (the second) without one.
ASKED = [unlike_below, lambda parents, hues, place: unlike_all(parents, hues), hues_below]


class LastPlaces(unittest.TestCase):
    def test_rows(self):
        self.assertEqual(last_places([]), [])
        self.assertEqual(last_places([5]), [None])
        self.assertEqual(last_places([4, 4, 4]), [None, 0, 1])
        self.assertEqual(last_places([1, 2, 3]), [None, None, None])
        self.assertEqual(last_places([1, 2, 1, 2, 3, 1]), [None, None, 0, 1, None, 2])
        self.assertEqual(last_places([0, -1, 0, 1, -1]), [None, None, 0, None, 1])
        self.assertEqual(last_places([BIG, -BIG, BIG + 1, BIG, -BIG]), [None, None, None, 0, 1])

    def test_against_the_plain_way(self):
        for row in [*ROWS, plainly.mixed_hues(200, 8)]:
            for number, last in enumerate(last_places(row)):
                alike = [at for at in range(number) if row[at] == row[number]]
                self.assertEqual(last, alike[-1] if alike else None)


class UnlikeIn(unittest.TestCase):
    def test_ordinary(self):
        row = [1, 2, 1, 3, 2]
        self.assertEqual(unlike_in(row, (0, 5)), 3)
        self.assertEqual(unlike_in(row, (0, 3)), 2)
        self.assertEqual(unlike_in(row, (2, 5)), 3)
        self.assertEqual(unlike_in(row, (1, 3)), 2)
        self.assertEqual(unlike_in([4, 4, 4], (0, 3)), 1)
        self.assertEqual(unlike_in([BIG, -BIG, BIG], (0, 3)), 2)

    def test_every_stretch(self):
        for row in ROWS:
            for first, beyond in itertools.combinations(range(len(row) + 1), 2):
                self.assertEqual(unlike_in(row, (first, beyond)), len(set(row[first:beyond])), (row, first, beyond))

    def test_one_number(self):
        for at in range(4):
            self.assertEqual(unlike_in([4, 4, 4, 4], (at, at + 1)), 1)

    def test_long(self):
        row = plainly.mixed_hues(200, 5)
        self.assertEqual(unlike_in(row, (0, 200)), len(set(row)))
        self.assertEqual(unlike_in(list(range(230)), (10, 230)), 220)

    def test_no_stretch(self):
        faults = [(0, 0), (1, 1), (3, 3), (2, 1), (3, 0), (-1, 1), (-1, 0), (-3, -1), (-1, 3), (0, 4), (2, 4), (3, 4)]
        faults += [(4, 5), (0, BIG), (-BIG, 1), (-BIG, BIG), (BIG, BIG + 1), (BIG, 1), (0, -BIG), (1, -1), (0, -1)]
        for stretch in faults:
            with self.subTest(stretch=stretch), self.assertRaises(NoPart):
                unlike_in([1, 2, 3], stretch)

    def test_empty_row(self):
        for stretch in [(0, 0), (0, 1), (-1, 0), (1, 0), (0, BIG), (-BIG, BIG)]:
            with self.subTest(stretch=stretch), self.assertRaises(NoPart):
                unlike_in([], stretch)


class Below(unittest.TestCase):
    parents = [3, 3, 0, None, 0, 1]
    hues = [5, -2, 5, 5, BIG, 5]

    def test_ordinary(self):
        self.assertEqual(unlike_all(self.parents, self.hues), [2, 2, 1, 3, 1, 1])
        self.assertEqual([unlike_below(self.parents, self.hues, at) for at in range(6)], [2, 2, 1, 3, 1, 1])
        told = [hues_below(self.parents, self.hues, at) for at in range(6)]
        self.assertEqual(told, [[5, BIG], [-2, 5], [5], [-2, 5, BIG], [BIG], [5]])

    def test_one_place(self):
        self.assertEqual(unlike_below([None], [-BIG], 0), 1)
        self.assertEqual(unlike_all([None], [-BIG]), [1])
        self.assertEqual(hues_below([None], [-BIG], 0), [-BIG])

    def test_rising(self):
        hues = [3, BIG, -BIG, 0, -1, 10, 9]
        self.assertEqual(hues_below(plainly.star(7), hues, 0), [-BIG, -1, 0, 3, 9, 10, BIG])

    def check(self, parents, hues):
        every = range(len(parents))
        right = [plainly.hues_below(parents, hues, place) for place in every]
        self.assertEqual([hues_below(parents, hues, place) for place in every], right)
        self.assertEqual([unlike_below(parents, hues, place) for place in every], [len(each) for each in right])
        self.assertEqual(unlike_all(parents, hues), [len(each) for each in right])

    def test_small_trees(self):
        for parents in plainly.small_trees(3):
            for hues in itertools.product([-1, 0, BIG], repeat=len(parents)):
                self.check(parents, list(hues))

    def test_larger_trees(self):
        for seed, parents in enumerate(plainly.large_trees()):
            many = len(parents)
            self.check(parents, [6] * many)
            self.check(parents, list(range(many)))
            self.check(parents, list(range(0, -many, -1)))
            self.check(parents, [at % 3 for at in range(many)])
            self.check(parents, plainly.mixed_hues(many, seed))

    def test_two_hundred_places(self):
        for parents in [plainly.row_tree(200), plainly.backward_row(200), plainly.mixed_tree(200, 1)]:
            hues = plainly.mixed_hues(200, 2)
            every = range(200)
            right = [len(plainly.hues_below(parents, hues, place)) for place in every]
            self.assertEqual(unlike_all(parents, hues), right)
            self.assertEqual(unlike_below(parents, hues, 120), right[120])

    def test_beyond_two_hundred(self):
        parents = plainly.row_tree(1100)
        self.assertEqual(unlike_all(parents, list(range(1100))), list(range(1100, 0, -1)))
        self.assertEqual(unlike_below(parents, [1] * 1100, 0), 1)
        self.assertEqual(hues_below(parents, list(range(1100)), 1098), [1098, 1099])

    def test_what_is_told_may_be_handed_in(self):
        row = [self.hues[place] for place in walk(self.parents)]
        for place in range(6):
            told = unlike_in(row, span(self.parents, place))
            self.assertEqual(told, unlike_below(self.parents, self.hues, place))


class Refusals(unittest.TestCase):
    no_trees = [[], [None, None], [1, 0], [0], [None, 1], [None, 2, 1], [None, -1], [None, 2], [None, BIG]]

    def test_no_tree_goes_first(self):
        for parents in self.no_trees:
            for hues in ([1] * len(parents), [1] * (len(parents) + 1), []):
                for place in (0, -1, BIG):
                    for at, ask in enumerate(ASKED):
                        with self.subTest(parents=parents, at=at), self.assertRaises(NoTree):
                            ask(parents, hues, place)

    def test_no_hues_goes_second(self):
        for parents in ([None], [None, 0, 0], plainly.row_tree(200)):
            many = len(parents)
            for hues in ([1] * (many - 1), [1] * (many + 1), [], [1] * (2 * many)):
                for place in (0, -1, many, BIG):
                    for at, ask in enumerate(ASKED):
                        with self.subTest(many=many, at=at), self.assertRaises(NoHues):
                            ask(parents, hues, place)

    def test_no_place_goes_last(self):
        for parents in ([None], [1, None, 1], plainly.row_tree(200)):
            many = len(parents)
            for place in (-1, -many, many, many + 1, BIG, -BIG):
                for ask in (unlike_below, hues_below):
                    with self.subTest(many=many, place=place), self.assertRaises(NoPlace):
                        ask(parents, [1] * many, place)


class KindsAndKeeping(unittest.TestCase):
    parents = [3, 3, 0, None, 0, 1]
    hues = [5, -2, 5, 5, BIG, 5]

    def lists(self, parents, hues):
        return [last_places(hues), unlike_all(parents, hues), hues_below(parents, hues, 3), hues_below(parents, hues, 5)]

    def test_kinds(self):
        for told in self.lists(self.parents, self.hues):
            self.assertIs(type(told), list)
            self.assertTrue(all(each is None or type(each) is int for each in told))
        self.assertIs(type(unlike_in(self.hues, (0, 1))), int)
        self.assertIs(type(unlike_below(self.parents, self.hues, 0)), int)

    def test_handed_in_stays(self):
        parents, hues = list(self.parents), list(self.hues)
        self.lists(parents, hues)
        unlike_in(hues, (1, 4))
        unlike_below(parents, hues, 0)
        with self.assertRaises(NoPart):
            unlike_in(hues, (4, 1))
        with self.assertRaises(NoPlace):
            unlike_below(parents, hues, 6)
        self.assertEqual((parents, hues), (self.parents, self.hues))

    def test_told_lists_are_new(self):
        right = self.lists(self.parents, self.hues)
        parents, hues = list(self.parents), list(self.hues)
        for told in self.lists(parents, hues):
            told[0] = 77
            told.append(99)
        self.assertEqual(self.lists(parents, hues), right)
        self.assertEqual((parents, hues), (self.parents, self.hues))

    def test_what_was_handed_in_may_change(self):
        parents, hues = list(self.parents), list(self.hues)
        told = self.lists(parents, hues)
        right = [list(each) for each in told]
        parents[:] = [None, 0]
        hues[:] = [1, 1]
        self.assertEqual(told, right)
        self.assertEqual(unlike_all(parents, hues), [1, 1])
        self.assertEqual(self.lists(list(self.parents), list(self.hues)), right)
