"""Parts, their places and unlike hues: [2], [4], [5], [11], [12]."""

import itertools
import unittest

from huesbelow.errors import NoHues, NoPart, NoTree
from huesbelow.parts import hues_of, places_of, unlike_of
from huesbelow.trees import span, walk
from tests import faults, plainly

BIG = plainly.BIG
EMPTY = plainly.empty_part(0)

# The walk of this one is [3, 0, 2, 4, 1, 5].
PARENTS = [3, 3, 0, None, 0, 1]
HUES = [5, -2, 5, 5, BIG, 5]


def nested(part, words, beside):
    for word in words:
        part = (word, part, beside)
    return part


class PlainParts(unittest.TestCase):
    def told(self, *part):
        return places_of(PARENTS, part)

    def test_below(self):
        told = [self.told("below", place) for place in range(6)]
        self.assertEqual(told, [[0, 2, 4], [1, 5], [2], [0, 1, 2, 3, 4, 5], [4], [5]])

    def test_to(self):
        self.assertEqual(self.told("to", 3, 0), [3])
        self.assertEqual(self.told("to", 3, 1), [0, 1, 3])
        self.assertEqual(self.told("to", 3, 2), [0, 1, 2, 3, 4, 5])
        self.assertEqual(self.told("to", 3, 3), [0, 1, 2, 3, 4, 5])
        self.assertEqual(self.told("to", 3, BIG), [0, 1, 2, 3, 4, 5])
        self.assertEqual(self.told("to", 0, 0), [0])
        self.assertEqual(self.told("to", 0, 1), [0, 2, 4])
        self.assertEqual(self.told("to", 5, 0), [5])
        self.assertEqual(self.told("to", 5, 7), [5])

    def test_way(self):
        self.assertEqual(self.told("way", 2, 5), [0, 1, 2, 3, 5])
        self.assertEqual(self.told("way", 5, 2), [0, 1, 2, 3, 5])
        self.assertEqual(self.told("way", 4, 2), [0, 2, 4])
        self.assertEqual(self.told("way", 3, 4), [0, 3, 4])
        self.assertEqual(self.told("way", 4, 3), [0, 3, 4])
        for place in range(6):
            self.assertEqual(self.told("way", place, place), [place])

    def test_stretch(self):
        self.assertEqual([self.told("stretch", at, at + 1) for at in range(6)], [[3], [0], [2], [4], [1], [5]])
        self.assertEqual(self.told("stretch", 0, 2), [0, 3])
        self.assertEqual(self.told("stretch", 2, 5), [1, 2, 4])
        self.assertEqual(self.told("stretch", 3, 6), [1, 4, 5])
        self.assertEqual(self.told("stretch", 0, 6), [0, 1, 2, 3, 4, 5])

    def test_stretch_of_a_span_is_what_is_below(self):
        for parents in plainly.large_trees():
            for place in range(len(parents)):
                first, beyond = span(parents, place)
                self.assertEqual(places_of(parents, ("stretch", first, beyond)), places_of(parents, ("below", place)))

    def test_one_place(self):
        for part in [("below", 0), ("to", 0, 0), ("to", 0, BIG), ("way", 0, 0), ("stretch", 0, 1)]:
            self.assertEqual(places_of([None], part), [0])
            self.assertEqual(unlike_of([None], [-BIG], part), 1)
            self.assertEqual(hues_of([None], [-BIG], part), [-BIG])

    def test_small_trees_place_by_place(self):
        for parents in plainly.small_trees(4):
            for part in plainly.plain_parts(parents):
                self.assertEqual(places_of(parents, part), plainly.places_of(parents, part), (parents, part))

    def test_larger_trees_place_by_place(self):
        for parents in plainly.large_trees()[:8]:
            for part in plainly.plain_parts(parents):
                self.assertEqual(places_of(parents, part), plainly.places_of(parents, part), (parents, part))


class PartsWithin(unittest.TestCase):
    def told(self, *part):
        return places_of(PARENTS, part)

    def test_parts_that_meet(self):
        one, other = ("below", 0), ("way", 2, 1)
        self.assertEqual(self.told("both", one, other), [0, 2])
        self.assertEqual(self.told("either", one, other), [0, 1, 2, 3, 4])
        self.assertEqual(self.told("but", one, other), [4])
        self.assertEqual(self.told("but", other, one), [1, 3])

    def test_parts_that_do_not_meet(self):
        one, other = ("below", 0), ("below", 1)
        self.assertEqual(self.told("both", one, other), [])
        self.assertEqual(self.told("either", one, other), [0, 1, 2, 4, 5])
        self.assertEqual(self.told("but", one, other), [0, 2, 4])
        self.assertEqual(self.told("but", other, one), [1, 5])

    def test_a_part_with_itself(self):
        for part in plainly.plain_parts(PARENTS):
            self.assertEqual(self.told("both", part, part), self.told(*part))
            self.assertEqual(self.told("either", part, part), self.told(*part))
            self.assertEqual(self.told("but", part, part), [])

    def test_parts_without_places(self):
        one = ("below", 0)
        self.assertEqual(self.told("both", one, EMPTY), [])
        self.assertEqual(self.told("both", EMPTY, one), [])
        self.assertEqual(self.told("either", one, EMPTY), [0, 2, 4])
        self.assertEqual(self.told("either", EMPTY, one), [0, 2, 4])
        self.assertEqual(self.told("but", one, EMPTY), [0, 2, 4])
        self.assertEqual(self.told("but", EMPTY, one), [])
        for word in ("both", "either", "but"):
            self.assertEqual(self.told(word, EMPTY, EMPTY), [])

    def test_every_two_parts_place_by_place(self):
        parents = [2, 2, None, 0]
        for word in ("both", "either", "but"):
            for one, other in itertools.product(plainly.plain_parts(parents) + [EMPTY], repeat=2):
                part = (word, one, other)
                self.assertEqual(places_of(parents, part), plainly.places_of(parents, part), part)

    def test_mixed_place_by_place(self):
        for seed, parents in enumerate(plainly.large_trees()[:8]):
            for part in plainly.mixed_parts(parents, 60, seed):
                self.assertEqual(places_of(parents, part), plainly.places_of(parents, part), (parents, part))

    def test_twelve_within_one_another(self):
        words = ["either", "but", "both"] * 4
        for beside in plainly.plain_parts(PARENTS)[:30]:
            part = ("way", 2, 5)
            turned = ("way", 2, 5)
            for at, word in enumerate(words):
                part = (word, part, beside if at % 2 else ("below", 3))
                turned = (word, beside if at % 2 else ("below", 3), turned)
            self.assertEqual(places_of(PARENTS, part), plainly.places_of(PARENTS, part))
            self.assertEqual(places_of(PARENTS, turned), plainly.places_of(PARENTS, turned))

    def test_twelve_within_one_another_on_both_sides(self):
        part = ("below", 0)
        for at in range(12):
            part = (("both", "either")[at % 2], part, part)
        self.assertEqual(places_of(PARENTS, part), [0, 2, 4])
        self.assertEqual(places_of(PARENTS, ("but", part, ("below", 4))), [0, 2])

    def test_somewhat_deeper(self):
        part = nested(("below", 0), ["either", "both"] * 50, ("below", 3))
        self.assertEqual(places_of(PARENTS, part), [0, 1, 2, 3, 4, 5])
        self.assertEqual(places_of(PARENTS, nested(("below", 0), ["but"] * 40, ("below", 4))), [0, 2])


class UnlikeHues(unittest.TestCase):
    def check(self, parents, hues, part):
        right = plainly.part_hues(parents, hues, part)
        self.assertEqual(unlike_of(parents, hues, part), len(set(right)), (parents, hues, part))
        self.assertEqual(hues_of(parents, hues, part), sorted(set(right)), (parents, hues, part))

    def test_ordinary(self):
        self.assertEqual(unlike_of(PARENTS, HUES, ("below", 0)), 2)
        self.assertEqual(hues_of(PARENTS, HUES, ("below", 0)), [5, BIG])
        self.assertEqual(unlike_of(PARENTS, HUES, ("way", 2, 5)), 2)
        self.assertEqual(hues_of(PARENTS, HUES, ("way", 2, 5)), [-2, 5])
        self.assertEqual(unlike_of(PARENTS, HUES, ("stretch", 0, 6)), 3)
        self.assertEqual(hues_of(PARENTS, HUES, ("stretch", 0, 6)), [-2, 5, BIG])
        self.assertEqual(unlike_of(PARENTS, HUES, ("to", 3, 0)), 1)

    def test_no_places(self):
        for part in [EMPTY, ("both", ("below", 0), ("below", 1)), ("both", EMPTY, ("below", 3)), ("but", EMPTY, EMPTY)]:
            self.assertEqual(unlike_of(PARENTS, HUES, part), 0)
            self.assertEqual(hues_of(PARENTS, HUES, part), [])

    def test_small_trees(self):
        for parents in plainly.small_trees(3):
            for hues in itertools.product([-1, 0, BIG], repeat=len(parents)):
                for part in plainly.plain_parts(parents) + [EMPTY]:
                    self.check(parents, list(hues), part)

    def test_larger_trees(self):
        for seed, parents in enumerate(plainly.large_trees()[:8]):
            many = len(parents)
            for part in plainly.mixed_parts(parents, 15, seed):
                self.check(parents, [6] * many, part)
                self.check(parents, list(range(0, -many, -1)), part)
                self.check(parents, plainly.mixed_hues(many, seed), part)

    def test_rising(self):
        hues = [3, BIG, -BIG, 0, -1, 10, 9]
        self.assertEqual(hues_of(plainly.star(7), hues, ("below", 0)), [-BIG, -1, 0, 3, 9, 10, BIG])


class LongTrees(unittest.TestCase):
    def test_rows(self):
        for many in (200, 230, 1300):
            parents = plainly.row_tree(many)
            every = list(range(many))
            self.assertEqual(places_of(parents, ("below", 5)), every[5:])
            self.assertEqual(places_of(parents, ("to", 5, 3)), every[5:9])
            self.assertEqual(places_of(parents, ("to", 5, many)), every[5:])
            self.assertEqual(places_of(parents, ("way", many - 1, 0)), every)
            self.assertEqual(places_of(parents, ("stretch", 0, many)), every)
            self.assertEqual(unlike_of(parents, every, ("but", ("below", 0), ("below", 7))), 7)
            self.assertEqual(hues_of(parents, every[::-1], ("below", many - 3)), [0, 1, 2])

    def test_backward(self):
        parents = plainly.backward_row(200)
        self.assertEqual(places_of(parents, ("stretch", 0, 3)), [197, 198, 199])
        self.assertEqual(places_of(parents, ("to", 199, 2)), [197, 198, 199])

    def test_mixed(self):
        parents = plainly.mixed_tree(200, 4)
        order = walk(parents)
        self.assertEqual(places_of(parents, ("stretch", 30, 90)), sorted(order[30:90]))
        self.assertEqual(places_of(parents, ("below", order[1])), plainly.below(parents, order[1]))


class Refusals(unittest.TestCase):
    asked = [lambda parents, hues, part: places_of(parents, part), unlike_of, hues_of]

    def test_no_part(self):
        for parents in ([None], PARENTS):
            many = len(parents)
            for part in faults.no_parts(many):
                for at, ask in enumerate(self.asked):
                    with self.subTest(part=part, at=at), self.assertRaises(NoPart):
                        ask(parents, [1] * many, part)

    def test_no_part_of_two_hundred_places(self):
        parents = plainly.row_tree(200)
        for part in faults.some_no_parts(200):
            with self.subTest(part=part), self.assertRaises(NoPart):
                places_of(parents, part)

    def test_no_tree_goes_first(self):
        for parents in faults.NO_TREES:
            many = len(parents)
            for part in [("below", 0), ("below", many), ("above", 0), (), ("both", ("below", 0), [])]:
                for hues in ([1] * many, [1] * (many + 1), []):
                    for at, ask in enumerate(self.asked):
                        with self.subTest(parents=parents, at=at), self.assertRaises(NoTree):
                            ask(parents, hues, part)

    def test_no_hues_goes_second(self):
        for hues in ([1] * 5, [1] * 7, [], [1] * 12):
            for part in [("below", 0), EMPTY, *faults.some_no_parts(6)]:
                for ask in (unlike_of, hues_of):
                    with self.subTest(part=part), self.assertRaises(NoHues):
                        ask(PARENTS, hues, part)


class KindsAndKeeping(unittest.TestCase):
    parts = [("below", 3), ("to", 3, 1), ("way", 2, 5), ("stretch", 1, 5), ("either", ("below", 0), ("below", 1))]
    parts += [("both", ("below", 3), ("way", 2, 5)), ("but", ("below", 3), ("below", 2)), EMPTY]

    def lists(self, parents, hues):
        told = [places_of(parents, part) for part in self.parts]
        return told + [hues_of(parents, hues, part) for part in self.parts]

    def test_kinds(self):
        for told in self.lists(PARENTS, HUES):
            self.assertIs(type(told), list)
            self.assertTrue(all(type(each) is int for each in told))
        for part in self.parts:
            self.assertIs(type(unlike_of(PARENTS, HUES, part)), int)

    def test_handed_in_stays(self):
        parents, hues = list(PARENTS), list(HUES)
        self.lists(parents, hues)
        for part in self.parts:
            unlike_of(parents, hues, part)
        self.assertEqual((parents, hues), (PARENTS, HUES))

    def test_refused_stays(self):
        parents, hues = list(PARENTS), list(HUES)
        inner, table = ["below", 0], {"below": 0}
        for part in [("both", inner, ("below", 0)), ("below", inner), ("below", table), (inner, 0), (table, 0)]:
            for ask in Refusals.asked:
                with self.assertRaises(NoPart):
                    ask(parents, hues, part)
        self.assertEqual((parents, hues, inner, table), (PARENTS, HUES, ["below", 0], {"below": 0}))

    def test_told_lists_are_new(self):
        right = self.lists(PARENTS, HUES)
        parents, hues = list(PARENTS), list(HUES)
        for told in self.lists(parents, hues):
            told.append(99)
            told[0] = 77
        self.assertEqual(self.lists(parents, hues), right)
        self.assertEqual((parents, hues), (PARENTS, HUES))

    def test_what_was_handed_in_may_change(self):
        parents, hues = list(PARENTS), list(HUES)
        told = self.lists(parents, hues)
        right = [list(each) for each in told]
        parents[:] = [None, 0]
        hues[:] = [1, 1]
        self.assertEqual(told, right)
        self.assertEqual(places_of(parents, ("below", 0)), [0, 1])
        self.assertEqual(self.lists(list(PARENTS), list(HUES)), right)

    def test_what_is_told_may_be_handed_in(self):
        told = places_of(PARENTS, ("way", 2, 5))
        self.assertEqual(places_of(PARENTS, ("way", told[2], told[-1])), told)
        self.assertEqual(unlike_of(PARENTS, places_of(PARENTS, ("below", 3)), ("below", 0)), 3)
