"""The lowest places: [2], [4], [5], [18], [19]."""

import itertools
import unittest

from huesbelow.errors import NoHues, NoNumber, NoTree
from huesbelow.lasts import hues_below
from huesbelow.lowest import fewest_with, lowest_holding, places_with
from tests import faults, plainly

BIG = plainly.BIG

# The depths of these places are [1, 1, 2, 0, 2, 2].
PARENTS = [3, 3, 0, None, 0, 1]
HUES = [5, -2, 5, 5, BIG, 5]


def lowest(parents, hues, wanted):
    best = None
    for place in range(len(parents)):
        if set(wanted) <= set(plainly.hues_below(parents, hues, place)):
            deep = len(plainly.from_root(parents, place))
            if best is None or deep > best[0]:
                best = (deep, place)
    return None if best is None else best[1]


def fewest(parents, hues, many):
    best = None
    for place in range(len(parents)):
        if len(plainly.hues_below(parents, hues, place)) >= many:
            size = len(plainly.below(parents, place))
            if best is None or size < best[0]:
                best = (size, place)
    return best


class LowestHolding(unittest.TestCase):
    def told(self, *wanted):
        return lowest_holding(PARENTS, HUES, list(wanted))

    def test_no_hues(self):
        self.assertEqual(self.told(), 2)
        self.assertEqual(lowest_holding([None], [1], []), 0)
        self.assertEqual(lowest_holding([1, 2, None], [1, 1, 1], []), 0)
        self.assertEqual(lowest_holding([None, 0, 1], [1, 1, 1], []), 2)

    def test_one(self):
        self.assertEqual(self.told(BIG), 4)
        self.assertEqual(self.told(-2), 1)

    def test_several_places_of_one_depth(self):
        self.assertEqual(self.told(5), 2)
        self.assertEqual(lowest_holding(plainly.star(6, 2), [7, 1, 1, 1, 7, 1], [1]), 1)
        self.assertEqual(lowest_holding(plainly.star(6, 2), [7, 1, 1, 1, 7, 1], [7]), 0)

    def test_the_depth_goes_ahead_of_the_number(self):
        self.assertEqual(lowest_holding([None, 0, 1], [4, 4, 4], [4]), 2)
        self.assertEqual(lowest_holding([3, 3, 0, None], [4, 4, 9, 4], [4]), 0)
        self.assertEqual(lowest_holding([3, 3, 1, None], [4, 9, 4, 4], [4]), 2)

    def test_some(self):
        self.assertEqual(self.told(5, BIG), 0)
        self.assertEqual(self.told(BIG, 5), 0)
        self.assertEqual(self.told(-2, 5), 1)
        self.assertEqual(self.told(-2, BIG), 3)
        self.assertEqual(self.told(-2, 5, BIG), 3)

    def test_one_that_stands_nowhere(self):
        self.assertIsNone(self.told(6))
        self.assertIsNone(self.told(-BIG))
        self.assertIsNone(self.told(5, 6))
        self.assertIsNone(self.told(6, 5, BIG, -2))

    def test_told_twice(self):
        self.assertEqual(self.told(BIG, BIG), 4)
        self.assertEqual(self.told(5, BIG, 5), 0)
        self.assertEqual(self.told(*[-2] * 200), 1)
        self.assertIsNone(self.told(6, 6))

    def test_against_the_plain_way(self):
        for parents in plainly.small_trees(3):
            for hues in itertools.product([-1, 0, BIG], repeat=len(parents)):
                for many in range(4):
                    for wanted in itertools.combinations([-1, 0, BIG, 3], many):
                        told = lowest_holding(parents, list(hues), list(wanted))
                        self.assertEqual(told, lowest(parents, hues, wanted), (parents, hues, wanted))

    def test_larger_trees(self):
        for seed, parents in enumerate(plainly.large_trees()):
            hues = plainly.mixed_hues(len(parents), seed)
            for many in range(4):
                for wanted in itertools.combinations([0, 1, 2, -1, -5, BIG, -BIG], many):
                    told = lowest_holding(parents, hues, list(wanted))
                    self.assertEqual(told, lowest(parents, hues, wanted), (parents, hues, wanted))

    def test_long(self):
        for many in (200, 230, 1100):
            parents, hues = plainly.row_tree(many), list(range(many))
            self.assertEqual(lowest_holding(parents, hues, []), many - 1)
            self.assertEqual(lowest_holding(parents, hues, [many - 1, 17]), 17)
            self.assertEqual(lowest_holding(parents, hues, hues), 0)


class PlacesWith(unittest.TestCase):
    def test_ordinary(self):
        told = [places_with(PARENTS, HUES, many) for many in range(6)]
        self.assertEqual(told, [[], [2, 4, 5], [0, 1], [3], [], []])
        self.assertEqual(places_with(PARENTS, HUES, BIG), [])

    def test_as_many_as_there_are_and_one_more(self):
        self.assertEqual(places_with([1, 2, None], [1, 2, 3], 3), [2])
        self.assertEqual(places_with([1, 2, None], [1, 2, 3], 4), [])
        self.assertEqual(places_with([1, 2, None], [1, 1, 1], 1), [0, 1, 2])
        self.assertEqual(places_with([None], [0], 0), [])
        self.assertEqual(places_with([None], [0], 1), [0])


class FewestWith(unittest.TestCase):
    def test_ordinary(self):
        self.assertEqual(fewest_with(PARENTS, HUES, 0), (1, 2))
        self.assertEqual(fewest_with(PARENTS, HUES, 1), (1, 2))
        self.assertEqual(fewest_with(PARENTS, HUES, 2), (2, 1))
        self.assertEqual(fewest_with(PARENTS, HUES, 3), (6, 3))
        self.assertIsNone(fewest_with(PARENTS, HUES, 4))
        self.assertIsNone(fewest_with(PARENTS, HUES, BIG))

    def test_more_than_so_many_will_do(self):
        self.assertEqual(fewest_with([1, 2, None, 2, 3, 3], [1, 1, 1, 7, 8, 9], 2), (3, 3))

    def test_the_least_of_several(self):
        parents, hues = [4, 4, 0, 1, None], [1, 2, 3, 4, 5]
        self.assertEqual(fewest_with(parents, hues, 2), (2, 0))
        self.assertEqual(fewest_with(parents, hues, 1), (1, 2))

    def test_one_place(self):
        self.assertEqual(fewest_with([None], [-BIG], 0), (1, 0))
        self.assertEqual(fewest_with([None], [-BIG], 1), (1, 0))
        self.assertIsNone(fewest_with([None], [-BIG], 2))


class ByNumberAgainstThePlainWay(unittest.TestCase):
    def check(self, parents, hues):
        unlike = [len(plainly.hues_below(parents, hues, place)) for place in range(len(parents))]
        for many in range(max(unlike) + 2):
            right = [place for place in range(len(parents)) if unlike[place] == many]
            self.assertEqual(places_with(parents, hues, many), right, (parents, hues, many))
            self.assertEqual(fewest_with(parents, hues, many), fewest(parents, hues, many), (parents, hues, many))

    def test_small_trees(self):
        for parents in plainly.small_trees(4):
            for hues in itertools.product([-1, 0, BIG], repeat=len(parents)):
                self.check(parents, list(hues))

    def test_larger_trees(self):
        for seed, parents in enumerate(plainly.large_trees()):
            many = len(parents)
            for hues in ([6] * many, list(range(many)), plainly.mixed_hues(many, seed)):
                self.check(parents, hues)

    def test_long(self):
        parents, hues = plainly.row_tree(200), list(range(200))
        self.assertEqual(places_with(parents, hues, 200), [0])
        self.assertEqual(places_with(parents, hues, 40), [160])
        self.assertEqual(fewest_with(parents, hues, 40), (40, 160))
        self.assertIsNone(fewest_with(parents, hues, 201))


class Refusals(unittest.TestCase):
    asked = [lambda parents, hues, many: lowest_holding(parents, hues, []),
             lambda parents, hues, many: lowest_holding(parents, hues, [1, 6]), places_with, fewest_with]

    def test_no_tree_goes_first(self):
        for parents in faults.NO_TREES:
            for hues in ([1] * len(parents), [1] * (len(parents) + 1), []):
                for many in (0, 1, -1, -BIG):
                    for at, ask in enumerate(self.asked):
                        with self.subTest(parents=parents, at=at), self.assertRaises(NoTree):
                            ask(parents, hues, many)

    def test_no_hues_goes_second(self):
        for hues in ([1] * 5, [1] * 7, []):
            for many in (0, 1, -1, -BIG):
                for at, ask in enumerate(self.asked):
                    with self.subTest(many=many, at=at), self.assertRaises(NoHues):
                        ask(PARENTS, hues, many)

    def test_no_number_goes_last(self):
        for many in (-1, -2, -BIG):
            for ask in (places_with, fewest_with):
                with self.subTest(many=many), self.assertRaises(NoNumber):
                    ask(PARENTS, HUES, many)


class KindsAndKeeping(unittest.TestCase):
    def test_kinds(self):
        for many in range(5):
            told = places_with(PARENTS, HUES, many)
            self.assertIs(type(told), list)
            self.assertTrue(all(type(place) is int for place in told))
        told = fewest_with(PARENTS, HUES, 2)
        self.assertIs(type(told), tuple)
        self.assertEqual([type(number) for number in told], [int, int])
        self.assertIs(type(lowest_holding(PARENTS, HUES, [5])), int)

    def test_handed_in_stays(self):
        parents, hues, wanted = list(PARENTS), list(HUES), [BIG, 5, 5]
        lowest_holding(parents, hues, wanted)
        for ask in (places_with, fewest_with):
            ask(parents, hues, 2)
            with self.assertRaises(NoNumber):
                ask(parents, hues, -1)
        self.assertEqual((parents, hues, wanted), (PARENTS, HUES, [BIG, 5, 5]))

    def test_told_lists_are_new(self):
        parents, hues = list(PARENTS), list(HUES)
        told = places_with(parents, hues, 1)
        told[0] = 77
        told.append(99)
        self.assertEqual(places_with(parents, hues, 1), [2, 4, 5])
        self.assertEqual((parents, hues), (PARENTS, HUES))

    def test_what_was_handed_in_may_change(self):
        parents, hues = list(PARENTS), list(HUES)
        told = places_with(parents, hues, 1)
        parents[:] = [None, 0]
        hues[:] = [1, 1]
        self.assertEqual(told, [2, 4, 5])
        self.assertEqual(places_with(parents, hues, 1), [0, 1])

    def test_what_is_told_may_be_handed_in(self):
        for place in range(6):
            wanted = hues_below(PARENTS, HUES, place)
            self.assertEqual(lowest_holding(PARENTS, HUES, wanted), lowest(PARENTS, HUES, wanted))
