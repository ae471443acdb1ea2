"""How often hues stand in a part, and the most frequent: [2], [4], [5], [13], [14], [15]."""

import collections
import itertools
import unittest

from huesbelow.errors import NoHues, NoNumber, NoPart, NoTree
from huesbelow.often import how_often, most_all, most_frequent, so_manieth, so_often
from tests import faults, plainly

BIG = plainly.BIG
EMPTY = plainly.empty_part(0)
ALL = ("below", 3)

PARENTS = [3, 3, 0, None, 0, 1]
HUES = [5, -2, 5, -2, BIG, 7]


def ranked(row):
    """The tuples (many, hue) of a row, the most frequent first, of those as frequent the least first."""
    left = collections.Counter(row)
    found = []
    while left:
        most = max(left.values())
        hue = min(each for each in left if left[each] == most)
        found.append((left.pop(hue), hue))
    return found


class AgainstThePlainWay(unittest.TestCase):
    def check(self, parents, hues, part):
        row = plainly.part_hues(parents, hues, part)
        right = ranked(row)
        where = (parents, hues, part)
        self.assertEqual(how_often(parents, hues, part), sorted((hue, row.count(hue)) for hue in set(row)), where)
        self.assertEqual(most_frequent(parents, hues, part), right[0] if right else None, where)
        for number, (many, hue) in enumerate(right, start=1):
            self.assertEqual(so_manieth(parents, hues, part, number), hue, where)
        for number in (len(right) + 1, len(right) + 2, BIG):
            self.assertIsNone(so_manieth(parents, hues, part, number), where)
        for many in (*range(1, len(row) + 3), BIG):
            self.assertEqual(so_often(parents, hues, part, many), sum(row.count(hue) >= many for hue in set(row)), where)

    def check_all(self, parents, hues):
        right = [ranked(plainly.part_hues(parents, hues, ("below", place)))[0] for place in range(len(parents))]
        self.assertEqual(most_all(parents, hues), right, (parents, hues))

    def test_small_trees(self):
        for parents in plainly.small_trees(3):
            for hues in itertools.product([-1, 0, BIG], repeat=len(parents)):
                self.check_all(parents, list(hues))
                for part in plainly.plain_parts(parents) + [EMPTY]:
                    self.check(parents, list(hues), part)

    def test_larger_trees(self):
        for seed, parents in enumerate(plainly.large_trees()[:8]):
            many = len(parents)
            for hues in ([6] * many, list(range(0, -many, -1)), plainly.mixed_hues(many, seed)):
                self.check_all(parents, hues)
                for part in plainly.mixed_parts(parents, 12, seed):
                    self.check(parents, hues, part)


class HowOften(unittest.TestCase):
    def test_ordinary(self):
        self.assertEqual(how_often(PARENTS, HUES, ALL), [(-2, 2), (5, 2), (7, 1), (BIG, 1)])
        self.assertEqual(how_often(PARENTS, HUES, ("below", 0)), [(5, 2), (BIG, 1)])
        self.assertEqual(how_often(PARENTS, HUES, ("way", 5, 3)), [(-2, 2), (7, 1)])

    def test_alike_and_unlike(self):
        self.assertEqual(how_often(PARENTS, [4] * 6, ALL), [(4, 6)])
        self.assertEqual(how_often(PARENTS, [0, 9, 10, -1, BIG, -BIG], ALL), [
            (-BIG, 1), (-1, 1), (0, 1), (9, 1), (10, 1), (BIG, 1)])

    def test_no_places(self):
        self.assertEqual(how_often(PARENTS, HUES, EMPTY), [])


class MostFrequent(unittest.TestCase):
    def test_ordinary(self):
        self.assertEqual(most_frequent(PARENTS, HUES, ("below", 0)), (2, 5))
        self.assertEqual(most_frequent(PARENTS, [4] * 6, ALL), (6, 4))
        self.assertEqual(most_frequent(PARENTS, [1, BIG, BIG, 1, BIG, 0], ALL), (3, BIG))
        self.assertEqual(most_frequent(PARENTS, [1, -BIG, -BIG, 1, -BIG, 0], ALL), (3, -BIG))

    def test_as_frequent_as_each_other(self):
        self.assertEqual(most_frequent(PARENTS, HUES, ALL), (2, -2))
        self.assertEqual(most_frequent(PARENTS, [9, 3, 9, 9, 3, 3], ALL), (3, 3))
        self.assertEqual(most_frequent(PARENTS, [3, 9, 3, 3, 9, 9], ALL), (3, 3))
        self.assertEqual(most_frequent(PARENTS, [0, -1, 1, BIG, -BIG, 2], ALL), (1, -BIG))

    def test_no_places(self):
        for part in [EMPTY, ("both", ("below", 0), ("below", 1)), ("both", EMPTY, ALL)]:
            self.assertIsNone(most_frequent(PARENTS, HUES, part))

    def test_for_all_places(self):
        self.assertEqual(most_all(PARENTS, HUES), [(2, 5), (1, -2), (1, 5), (2, -2), (1, BIG), (1, 7)])
        self.assertEqual(most_all([None], [-BIG]), [(1, -BIG)])

    def test_long(self):
        parents = plainly.row_tree(200)
        hues = [at % 2 for at in range(200)]
        self.assertEqual(most_all(parents, hues)[:3], [(100, 0), (100, 1), (99, 0)])
        self.assertEqual(most_frequent(parents, hues, ("to", 1, 4)), (3, 1))
        self.assertEqual(most_all(plainly.row_tree(1100), [3] * 1100), [(many, 3) for many in range(1100, 0, -1)])


class SoOften(unittest.TestCase):
    def test_ordinary(self):
        hues = [1, 1, 1, 2, 2, -BIG]
        self.assertEqual([so_often(PARENTS, hues, ALL, many) for many in (1, 2, 3, 4, BIG)], [3, 2, 1, 0, 0])

    def test_as_often_as_the_most_frequent(self):
        for hues in (HUES, [4] * 6, list(range(6))):
            most = most_frequent(PARENTS, hues, ALL)[0]
            self.assertGreaterEqual(so_often(PARENTS, hues, ALL, most), 1)
            self.assertEqual(so_often(PARENTS, hues, ALL, most + 1), 0)
            self.assertEqual(so_often(PARENTS, hues, ALL, 1), len(set(hues)))

    def test_no_places(self):
        for many in (1, 2, BIG):
            self.assertEqual(so_often(PARENTS, HUES, EMPTY, many), 0)


class SoManieth(unittest.TestCase):
    def test_first_last_and_beyond(self):
        self.assertEqual([so_manieth(PARENTS, HUES, ALL, number) for number in range(1, 5)], [-2, 5, 7, BIG])
        self.assertIsNone(so_manieth(PARENTS, HUES, ALL, 5))
        self.assertIsNone(so_manieth(PARENTS, HUES, ALL, BIG))

    def test_the_most_frequent_goes_first(self):
        hues = [9, 9, 9, 1, 4, 4]
        self.assertEqual([so_manieth(PARENTS, hues, ALL, number) for number in (1, 2, 3, 4)], [9, 4, 1, None])

    def test_no_places(self):
        self.assertIsNone(so_manieth(PARENTS, HUES, EMPTY, 1))


class Refusals(unittest.TestCase):
    by_part = [
        how_often,
        most_frequent,
        lambda parents, hues, part: so_often(parents, hues, part, 1),
        lambda parents, hues, part: so_manieth(parents, hues, part, 1),
        lambda parents, hues, part: so_often(parents, hues, part, 0),
        lambda parents, hues, part: so_manieth(parents, hues, part, -BIG),
    ]
    asked = [*by_part, lambda parents, hues, part: most_all(parents, hues)]

    def test_no_tree_goes_first(self):
        for parents in faults.NO_TREES:
            for hues in ([1] * len(parents), [1] * (len(parents) + 1), []):
                for part in [("below", 0), (), ("below", BIG)]:
                    for at, ask in enumerate(self.asked):
                        with self.subTest(parents=parents, at=at), self.assertRaises(NoTree):
                            ask(parents, hues, part)

    def test_no_hues_goes_second(self):
        for hues in ([1] * 5, [1] * 7, []):
            for part in [ALL, EMPTY, (), ("below", BIG)]:
                for at, ask in enumerate(self.asked):
                    with self.subTest(part=part, at=at), self.assertRaises(NoHues):
                        ask(PARENTS, hues, part)

    def test_no_part_goes_third(self):
        for part in faults.some_no_parts(6):
            for at, ask in enumerate(self.by_part):
                with self.subTest(part=part, at=at), self.assertRaises(NoPart):
                    ask(PARENTS, HUES, part)

    def test_no_number_goes_last(self):
        for part in (ALL, EMPTY, ("stretch", 0, 1)):
            for number in (0, -1, -BIG):
                for ask in (so_often, so_manieth):
                    with self.subTest(part=part, number=number), self.assertRaises(NoNumber):
                        ask(PARENTS, HUES, part, number)


class KindsAndKeeping(unittest.TestCase):
    def lists(self, parents, hues):
        return [how_often(parents, hues, ALL), most_all(parents, hues), how_often(parents, hues, ("way", 2, 5))]

    def test_kinds(self):
        for told in self.lists(PARENTS, HUES):
            self.assertIs(type(told), list)
            for each in told:
                self.assertIs(type(each), tuple)
                self.assertEqual([type(number) for number in each], [int, int])
        told = most_frequent(PARENTS, HUES, ALL)
        self.assertIs(type(told), tuple)
        self.assertEqual([type(number) for number in told], [int, int])
        self.assertIs(type(so_often(PARENTS, HUES, ALL, 1)), int)
        self.assertIs(type(so_often(PARENTS, HUES, EMPTY, 1)), int)
        self.assertIs(type(so_manieth(PARENTS, HUES, ALL, 1)), int)

    def test_handed_in_stays(self):
        parents, hues = list(PARENTS), list(HUES)
        self.lists(parents, hues)
        most_frequent(parents, hues, ALL)
        for ask in (so_often, so_manieth):
            ask(parents, hues, ALL, 2)
            with self.assertRaises(NoNumber):
                ask(parents, hues, ALL, 0)
        self.assertEqual((parents, hues), (PARENTS, HUES))

    def test_told_lists_are_new(self):
        right = self.lists(PARENTS, HUES)
        parents, hues = list(PARENTS), list(HUES)
        for told in self.lists(parents, hues):
            told[0] = (77, 77)
            told.append(99)
        self.assertEqual(self.lists(parents, hues), right)
        self.assertEqual((parents, hues), (PARENTS, HUES))

    def test_what_was_handed_in_may_change(self):
        parents, hues = list(PARENTS), list(HUES)
        told = self.lists(parents, hues)
        right = [list(each) for each in told]
        parents[:] = [None, 0]
        hues[:] = [1, 1]
        self.assertEqual(told, right)
        self.assertEqual(most_all(parents, hues), [(2, 1), (1, 1)])
